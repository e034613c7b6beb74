import PyProof.Rows.All
import Wide.All
import OpenK.AllK
import Wide.FinOn
import Lean
import PyProof.EqAt
import PyProof.EqKinds
import PyProof.TupleCall
import PySem.Challenge.RW_neverwait_k22_wrong_handings
set_option Elab.async false
set_option linter.all false
set_option maxRecDepth 100000
set_option maxHeartbeats 8000000
namespace L2
open PySem PySem.Spec PyProof.Rows
abbrev Key:=Sum Int Str
def lA : Key→Value→Bool
 | .inl k,v=>Value.isInt k v
 | .inr x,v=>Value.isStrOf x v
def keyH (w : World) : Key→Int
 | .inl k=>hashInt k
 | .inr x=>hashStr w x
theorem cL : ∀ {k : Key} {v : Value},lA k v = true→(∃ i t,k = Sum.inl i∧v = Value.int i t)∨(∃ x t,k = Sum.inr x∧v = Value.str x t)
 | .inl i,v,h=>by
  obtain ⟨t,e⟩:=Value.isInt_shape (k:=i) (v:=v) h
  exact .inl ⟨i,t,rfl,e⟩
 | .inr x,v,h=>by
  obtain ⟨t,e⟩:=Value.isStrOf_shape (x:=x) (v:=v) h
  exact .inr ⟨x,t,rfl,e⟩
theorem zJ (i : Int) (t : Tok) : lA (.inl i) (.int i t) = true:=by simp [lA,Value.isInt]
theorem zK (x : Str) (t : Tok) : lA (.inr x) (.str x t) = true:=by simp [lA,Value.isStrOf]
theorem aDr (a b : Int) : decide ((Sum.inl a : Key) = Sum.inl b) = (a == b):=by
 by_cases e : a = b
 ·subst e; simp
 ·have h : ¬ (Sum.inl a : Key) = Sum.inl b:=fun q=>e (Sum.inl.inj q)
  rw [decide_eq_false h]
  exact (beq_eq_false_iff_ne.mpr e).symm
theorem aDs (a b : Str) : decide ((Sum.inr a : Key) = Sum.inr b) = decide (a = b):=by
 by_cases e : a = b
 ·subst e; simp
 ·have h : ¬ (Sum.inr a : Key) = Sum.inr b:=fun q=>e (Sum.inr.inj q)
  rw [decide_eq_false h,decide_eq_false e]
theorem aDt (a : Int) (b : Str) : decide ((Sum.inl a : Key) = Sum.inr b) = false:=decide_eq_false (fun q=>nomatch q)
theorem aDu (a : Str) (b : Int) : decide ((Sum.inr a : Key) = Sum.inl b) = false:=decide_eq_false (fun q=>nomatch q)
def bU (prog : Program) (w : World) : PySem.KeyKind prog w Key where
 is:=lA
 hash:=keyH w
 inj:=fun v a b ha hb=>by
  rcases cL ha with ⟨i,t,rfl,rfl⟩ | ⟨x,t,rfl,rfl⟩
  ·rcases cL hb with ⟨j,u,rfl,e⟩ | ⟨y,u,rfl,e⟩
   ·injection e with e1 _; rw [e1]
   ·exact nomatch e
  ·rcases cL hb with ⟨j,u,rfl,e⟩ | ⟨y,u,rfl,e⟩
   ·exact nomatch e
   ·injection e with e1 _; rw [e1]
 byValue:=fun k v h=>by
  rcases cL h with ⟨i,t,rfl,rfl⟩ | ⟨x,t,rfl,rfl⟩ <;> rfl
 pyHash:=fun hv h=>by
  rcases cL hv with ⟨i,t,rfl,rfl⟩ | ⟨x,t,rfl,rfl⟩
  ·exact wpAny_pyHash_int h
  ·exact wpAny_pyHash_str h
 eqBool:=fun hu hv h=>by
  rcases cL hu with ⟨i,t,rfl,rfl⟩ | ⟨x,t,rfl,rfl⟩
  ·rcases cL hv with ⟨j,u,rfl,rfl⟩ | ⟨y,u,rfl,rfl⟩
   ·rw [aDr] at h; exact wpAny_eqBool_int h
   ·rw [aDt] at h; exact SeqAt.EqAt.int_str i t y u _ _ _ _ h
  ·rcases cL hv with ⟨j,u,rfl,rfl⟩ | ⟨y,u,rfl,rfl⟩
   ·rw [aDu] at h; exact SeqAt.EqAt.str_int x t j u _ _ _ _ h
   ·rw [aDs] at h; exact wpAny_eqBool_str h
 «strs»:=fun k x t v h=>by
  rcases cL h with ⟨i,u,rfl,e⟩ | ⟨y,u,rfl,e⟩
  ·exact nomatch e
  ·injection e with e1 _
   subst e1
   cases v <;> rfl
theorem uP (prog : Program) (w : World) (i : Int) (t : Tok) : (bU prog w).is (.inl i) (.int i t) = true:=zJ i t
theorem uQ (prog : Program) (w : World) (x : Str) (t : Tok) : (bU prog w).is (.inr x) (.str x t) = true:=zK x t
end L2
namespace L2
open PySem PySem.Spec PyProof.Rows
inductive V where
 | non | bl (b : Bool) | int (i : Int) | str (x : Str) | byt (b : Array UInt8) | flt (b : UInt64) | ref (a : Addr) | ty (n : String)
 deriving DecidableEq
def RelV : V→Value→Prop
 | .non,u=>u = Value.none
 | .bl b,u=>u = Value.bool b
 | .int i,u=>∃ t,u = Value.int i t
 | .str x,u=>∃ t,u = Value.str x t
 | .byt b,u=>∃ t,u = Value.bytes b t
 | .flt b,u=>∃ t,u = Value.float b t
 | .ref a,u=>u = Value.ref a
 | .ty n,u=>u = Value.type n
abbrev Vals : List V→List Value→Prop:=Paired RelV
theorem Vals.length {xs : List V} {us : List Value} (r : Vals xs us) : xs.length = us.length:=Paired.length r
theorem Vals.get : ∀ {xs : List V} {us : List Value} {i : Nat} {x : V},Vals xs us→xs[i]? = some x→∃ u,us[i]? = some u∧RelV x u
 | _,_,_,_,.nil,e=>by simp at e
 | _,_,0,_,.cons r _,e=>by simp at e; subst e; exact ⟨_,rfl,r⟩
 | _,_,i + 1,x,.cons _ t,e=>by
  obtain ⟨u,h1,h2⟩:=Vals.get (i:=i) (x:=x) t (by simpa using e)
  exact ⟨u,by simpa using h1,h2⟩
theorem Vals.set {x : V} {u : Value} (r : RelV x u) : ∀ {xs : List V} {us : List Value} (i : Nat),Vals xs us→Vals (xs.set i x) (us.set i u)
 | _,_,_,.nil=>.nil
 | _,_,0,.cons _ t=>.cons r t
 | _,_,i + 1,.cons q t=>.cons q (Vals.set r i t)
theorem Vals.append : ∀ {xs ys : List V} {us ws : List Value},Vals xs us→Vals ys ws→Vals (xs ++ ys) (us ++ ws)
 | _,_,_,_,.nil,s=>s
 | _,_,_,_,.cons r t,s=>.cons r (Vals.append t s)
theorem Vals.take : ∀ {xs : List V} {us : List Value} (n : Nat),Vals xs us→Vals (xs.take n) (us.take n)
 | _,_,0,_=>.nil
 | _,_,_ + 1,.nil=>.nil
 | _,_,n + 1,.cons r t=>.cons r (Vals.take n t)
theorem Vals.drop : ∀ {xs : List V} {us : List Value} (n : Nat),Vals xs us→Vals (xs.drop n) (us.drop n)
 | _,_,0,r=>r
 | _,_,_ + 1,.nil=>.nil
 | _,_,n + 1,.cons _ t=>Vals.drop n t
def RelO : Option V→Option Value→Prop
 | some v,some u=>RelV v u
 | none,none=>True
 | _,_=>False
def KV {κ : Type} : List (κ × V)→List (κ × Value)→Prop:=Paired fun (p : κ × V) (q : κ × Value)=>p.1 = q.1∧RelV p.2 q.2
def kV : Key→V
 | .inl i=>.int i
 | .inr x=>.str x
inductive HO where
 | lst (xs : List V)
 | tup (xs : List V)
 | dK (kvs : List (Key × V)) | dT (kvs : List (List Key × V))
 | set (S : Int→Bool) (n : Nat)
 | ins (C dx : Addr) (fs : List (Str × V))
 | own (x : Addr)
 | xd (fs : List (Str × V))
 | met (f x : Addr)
 | rng (lo hi : Int)
 | frz (o : Obj) (u : HO)
 | tbl (ps : Array Value)
 | ext (φ : Heap→Prop)
abbrev Hp:=Addr→Option HO
def upd (H : Hp) (a : Addr) (o : HO) : Hp:=fun b=>if b = a then some o else H b
theorem aD {H : Hp} {a : Addr} {o : HO} : upd H a o a = some o:=by unfold upd; rw [if_pos rfl]
theorem aH {H : Hp} {a b : Addr} {o : HO} (h : b ≠ a) : upd H a o b = H b:=by unfold upd; rw [if_neg h]
theorem lB {H : Hp} {a : Addr} {o u : HO} : upd (upd H a o) a u = upd H a u:=by
 funext b; unfold upd; split <;> rfl
theorem cZ {H : Hp} {a b : Addr} {o u : HO} (h : H a = some o) (h' : H b = some u) (d : o ≠ u) : a ≠ b:=by
 intro e; subst e; rw [h] at h'; exact d (Option.some.inj h')
theorem aJ {H : Hp} {a b : Addr} {o : HO} (h : H a = some o) (h' : H b = none) : a ≠ b:=by
 intro e; subst e; rw [h] at h'; cases h'
section
variable (P : Program) (w : World)
def fY (h : Heap) (a : Addr) (items : Array Value) : Prop:=∃ o,h.get? a = some o∧o.cls = .type "tuple" ∧ ∃ n,o.data = .seq items n∧o.dict = none
theorem fY.tup {h : Heap} {a : Addr} {items : Array Value} (p : fY h a items) : IsTup h a items:=let ⟨o,e,c,n,d,_⟩:=p; ⟨o,e,c,n,d⟩
theorem fY.new (h : Heap) (items : Array Value) : fY (h.push { cls:=.type "tuple",data:=.seq items }) h.objs.size items:=⟨_,Heap.get?_push_size _ rfl,rfl,_,rfl,rfl⟩
def bP (H : Hp) (h : Heap) (a : Addr) : HO→Prop
 | .lst xs=>xs.length ≤ sizeLine∧∃ (its : List Value) (n : Nat),Vals xs its∧h.get? a = some { cls:=.type "list",data:=.seq its.toArray n }
 | .tup xs=>xs.length ≤ sizeLine∧∃ its : List Value,Vals xs its∧fY h a its.toArray
 | .dK kvs=>kvs.length ≤ sizeLine∧(a == sysModules) = false∧∃ vs,KV kvs vs∧h.DictOf (bU P w) a vs
 | .dT kvs=>kvs.length ≤ sizeLine∧(a == sysModules) = false∧∃ xs : List (List Key × Addr × Value),
   Paired (fun (p : List Key × V) (q : List Key × Addr × Value)=>p.1 = q.1∧H q.2.1 = some (.tup (p.1.map kV))∧RelV p.2 q.2.2) kvs xs ∧
   ∃ o es ep,h.get? a = some o∧o.ExactDict∧o.data = .dict es ep∧es.toList = xs.map (entryOfKey (tupleKind (bU P w)))∧(xs.map (·.1)).Nodup
 | .set S n=>h.SetOf (intKind P w) a S n
 | .ins C dx fs=>H dx = some (.own a)∧fs.length ≤ 1000∧dx ≠ a∧h.get? a = some (PySem.W.instObj C dx) ∧
   ∃ mA,h.Ns1 dx mA∧(∀ f,RelO (fs.lookup f) (mA f))∧PySem.Within mA (fs.map (·.1))
 | .own _=>∃ o,h.get? a = some o
 | .xd fs=>∃ mA,h.Ns1 a mA∧∀ f,RelO (fs.lookup f) (mA f)
 | .rng lo hi=>∃ t u v,h.get? a = some { cls:=.type "range",data:=.fields #[.int lo t,.int hi u,.int 1 v] }
 | .frz o u=>h.get? a = some o∧bP H h a u
 | .tbl ps=>h.get? a = some { cls:=.none,data:=.fields ps }
 | .met f x=>h.get? a = some (PySem.W.methodObj (.ref f) (.ref x))
 | .ext φ=>φ h∧(∃ o,h.get? a = some o)∧∀ h1 h2 : Heap,φ h1→(∀ o,h1.get? a = some o→h2.get? a = some o)→φ h2
def HOk (H : Hp) (h : Heap) : Prop:=∀ a o,H a = some o→bP P w H h a o
end
section
variable {P : Program} {w : World} {H H' : Hp} {h h' : Heap} {a : Addr} {o : HO}
theorem bP.lt (x : bP P w H h a o) : a < h.objs.size:=by
 cases o with
 | lst xs=>obtain ⟨_,_,_,_,e⟩:=x; exact Heap.lt_size e
 | tup xs=>obtain ⟨_,_,_,p⟩:=x; exact p.tup.lt
 | dK kvs=>obtain ⟨_,_,_,_,o,_,_,e,_⟩:=x; exact Heap.lt_size e
 | dT kvs=>obtain ⟨_,_,_,_,o,_,_,e,_⟩:=x; exact Heap.lt_size e
 | set S n=>obtain ⟨o,_,_,_,e,_⟩:=x; exact Heap.lt_size e
 | ins C dx fs=>obtain ⟨_,_,_,e,_⟩:=x; exact Heap.lt_size e
 | own y=>obtain ⟨_,e⟩:=x; exact Heap.lt_size e
 | xd fs=>obtain ⟨_,⟨_,_,_,e,_⟩,_⟩:=x; exact Heap.lt_size e
 | rng lo hi=>obtain ⟨_,_,_,e⟩:=x; exact Heap.lt_size e
 | frz ob u=>obtain ⟨e,_⟩:=x; exact Heap.lt_size e
 | tbl ps=>exact Heap.lt_size (show h.get? a = some _ from x)
 | met f y=>exact Heap.lt_size (show h.get? a = some _ from x)
 | ext φ=>obtain ⟨_,⟨_,e⟩,_⟩:=x; exact Heap.lt_size e
theorem Paired.mapP {α β : Type} {F G : α→β→Prop} : ∀ {l₁ : List α} {l₂ : List β},Paired F l₁ l₂→(∀ a b,F a b→G a b)→Paired G l₁ l₂
 | _,_,.nil,_=>.nil
 | _,_,.cons r t,f=>.cons (f _ _ r) (Paired.mapP t f)
theorem bP.stay (x : bP P w H h a o) (k : ∀ b u,(b = a∨H b = some (.own a))→h.get? b = some u→h'.get? b = some u)
  (ho : ∀ b,H b = some (.own a)→H' b = some (.own a)) (ht : ∀ b xs,H b = some (.tup xs)→H' b = some (.tup xs)) : bP P w H' h' a o:=by
 induction o with
 | lst xs=>obtain ⟨z,its,n,r,e⟩:=x; exact ⟨z,its,n,r,k _ _ (.inl rfl) e⟩
 | tup xs=>obtain ⟨z,its,r,ob,e,c⟩:=x; exact ⟨z,its,r,ob,k _ _ (.inl rfl) e,c⟩
 | dK kvs=>obtain ⟨z,y,vs,r,ob,es,ep,e,c⟩:=x; exact ⟨z,y,vs,r,ob,es,ep,k _ _ (.inl rfl) e,c⟩
 | dT kvs =>
  obtain ⟨z,y,xs,r,ob,es,ep,e,c⟩:=x
  exact ⟨z,y,xs,Paired.mapP r fun p q z=>⟨z.1,ht _ _ z.2.1,z.2.2⟩,ob,es,ep,k _ _ (.inl rfl) e,c⟩
 | set S n=>obtain ⟨ob,es,ep,t,e,c⟩:=x; exact ⟨ob,es,ep,t,k _ _ (.inl rfl) e,c⟩
 | ins C dx fs =>
  obtain ⟨d,z,ne,e,mA,⟨od,es,ep,e2,c⟩,r⟩:=x
  exact ⟨ho _ d,z,ne,k _ _ (.inl rfl) e,mA,⟨od,es,ep,k _ _ (.inr d) e2,c⟩,r⟩
 | own y=>obtain ⟨ob,e⟩:=x; exact ⟨ob,k _ _ (.inl rfl) e⟩
 | xd fs=>obtain ⟨mA,⟨od,es,ep,e,c⟩,r⟩:=x; exact ⟨mA,⟨od,es,ep,k _ _ (.inl rfl) e,c⟩,r⟩
 | rng lo hi=>obtain ⟨t,u,v,e⟩:=x; exact ⟨t,u,v,k _ _ (.inl rfl) e⟩
 | frz ob u ih=>obtain ⟨e,q⟩:=x; exact ⟨k _ _ (.inl rfl) e,ih q⟩
 | tbl ps =>
  have e : h.get? a = some { cls:=.none,data:=.fields ps }:=x
  show h'.get? a = some { cls:=.none,data:=.fields ps }
  exact k a _ (.inl rfl) e
 | met f y =>
  have e : h.get? a = some (PySem.W.methodObj (.ref f) (.ref y)):=x
  show h'.get? a = some (PySem.W.methodObj (.ref f) (.ref y))
  exact k a _ (.inl rfl) e
 | ext φ=>obtain ⟨p,⟨o,e⟩,st⟩:=x; exact ⟨st _ _ p fun o q=>k _ _ (.inl rfl) q,⟨o,k _ _ (.inl rfl) e⟩,st⟩
theorem HOk.lt (x : HOk P w H h) (e : H a = some o) : a < h.objs.size:=(x a o e).lt
theorem HOk.fresh (x : HOk P w H h) (e : h.objs.size ≤ a) : H a = none:=by
 cases q : H a with
 | none=>rfl
 | some u=>exact absurd (Nat.lt_of_lt_of_le (x.lt q) e) (Nat.lt_irrefl _)
theorem HOk.kept (x : HOk P w H h) (k : ∀ b u,h.get? b = some u→h'.get? b = some u) : HOk P w H h':=fun a o e =>
 (x a o e).stay (fun b u _ q=>k b u q) (fun _ q=>q) fun _ _ q=>q
theorem HOk.laid (x : HOk P w H h) (k : ∀ b u,h.get? b = some u→h'.get? b = some u) (hp : h.objs.size ≤ a) (new : bP P w (upd H a o) h' a o) : HOk P w (upd H a o) h':=fun b u e=>by
 have hn:=x.fresh hp
 by_cases hb : b = a
 ·subst hb; rw [aD] at e; cases e; exact new
 ·rw [aH hb] at e
  exact (x b u e).stay (fun c v _ q=>k c v q) (fun c q=>by rw [aH (aJ q hn)]; exact q) fun c xs q=>by rw [aH (aJ q hn)]; exact q
end
def Rd (H : Hp) (a : Addr) (u : HO) : Prop:=H a = some u∨∃ o,H a = some (.frz o u)
theorem Rd.ok {P : Program} {w : World} {H : Hp} {h : Heap} {a : Addr} {u : HO} (r : Rd H a u) (x : HOk P w H h) : bP P w H h a u:=by
 rcases r with r | ⟨o,r⟩
 ·exact x a u r
 ·obtain ⟨_,q⟩:=x a _ r
  exact q
def Mut : Option HO→Prop
 | some (.lst _)=>True
 | some (.dK _)=>True
 | some (.dT _)=>True
 | some (.set _ _)=>True
 | some (.ins _ _ _)=>True
 | some (.ext _)=>True
 | _=>False
section
variable {P : Program} {w : World} {H : Hp} {h h' : Heap} {x e : Addr} {o' : HO}
theorem HOk.write (ok : HOk P w H h) (mu : Mut (H x)) (he : e = x∨H e = some (.own x)) (k : ∀ b u,b ≠ e→h.get? b = some u→h'.get? b = some u) (heo : ∃ u,h'.get? e = some u)
  (new : bP P w (upd H x o') h' x o') : HOk P w (upd H x o') h':=fun b u q=>by
 have nown : ∀ c y,H c = some (.own y)→c ≠ x:=fun c y r z=>by subst z; rw [r] at mu; exact mu
 have ntup : ∀ c xs,H c = some (.tup xs)→c ≠ x:=fun c xs r z=>by subst z; rw [r] at mu; exact mu
 by_cases hb : b = x
 ·subst hb; rw [aD] at q; cases q; exact new
 ·rw [aH hb] at q
  by_cases hbe : b = e
  ·have q' : H b = some (.own x):=by
    rcases he with z | z
    ·exact absurd (hbe.trans z) hb
    ·rw [hbe]; exact z
   rw [q] at q'; cases q'
   obtain ⟨v,hv⟩:=heo
   exact ⟨v,by rw [hbe]; exact hv⟩
  ·refine (ok b u q).stay (fun c v hc r=>k c v ?_ r) (fun c r=>by rw [aH (nown c b r)]; exact r) fun c xs r=>by rw [aH (ntup c xs r)]; exact r
   rcases hc with rfl | hc
   ·exact hbe
   ·rintro rfl
    rcases he with z | z
    ·exact nown c b hc z
    ·rw [hc] at z; cases z; exact hb rfl
end
structure Un (fs ex : List Addr) (H H' : Hp) (h h' : Heap) : Prop where
 keep : ∀ b o,h.get? b = some o→H b = none→b ∉ fs→b ∉ ex→h'.get? b = some o
 slot : ∀ b o,h.get? b = some o→H b = none→b∈fs→b ∉ ex→∃ sl,h'.get? b = some { o with slots:=sl }
 free : ∀ b o,h.get? b = some o→H b = none→b ∉ ex→H' b = none
 there : ∀ b o,h.get? b = some o→b ∉ ex→∃ o',h'.get? b = some o'
 tups : ∀ b xs,H b = some (.tup xs)→H' b = some (.tup xs)
 frzs : ∀ b o u,H b = some (.frz o u)→H' b = some (.frz o u)
 tbls : ∀ b ps,H b = some (.tbl ps)→∃ more,H' b = some (.tbl (ps ++ more))
section
variable {fs fs' ex ex' : List Addr} {H H1 H2 : Hp} {h h1 h2 h' : Heap} {a x e : Addr} {o : HO}
theorem Un.any (u : Un fs ex H H1 h h1) {b : Addr} {ob : Obj} (q : h.get? b = some ob) (n : H b = none) (hx : b ∉ ex) : ∃ sl,h1.get? b = some { ob with slots:=sl }:=by
 by_cases hb : b∈fs
 ·exact u.slot b ob q n hb hx
 ·exact ⟨ob.slots,u.keep b ob q n hb hx⟩
theorem Un.kept (k : ∀ b u,h.get? b = some u→h'.get? b = some u) : Un fs ex H H h h' :=
 ⟨fun b ob q _ _ _=>k b ob q,fun b ob q _ _ _=>⟨ob.slots,k b ob q⟩,fun _ _ _ n _=>n,fun b ob q _=>⟨ob,k b ob q⟩,fun _ _ q=>q,fun _ _ _ q=>q,fun _ ps q=>⟨#[],by rw [q]; simp⟩⟩
theorem Un.refl : Un fs ex H H h h:=Un.kept fun _ _ q=>q
theorem Un.laid (k : ∀ b u,h.get? b = some u→h'.get? b = some u) (hp : h.objs.size ≤ a) (hn : H a = none) : Un fs ex H (upd H a o) h h' where
 keep:=fun b u q _ _ _=>k b u q
 slot:=fun b u q _ _ _=>⟨u.slots,k b u q⟩
 free:=fun b u q n _=>by rw [aH (Nat.ne_of_lt (Nat.lt_of_lt_of_le (Heap.lt_size q) hp))]; exact n
 there:=fun b u q _=>⟨u,k b u q⟩
 tups:=fun b xs q=>by rw [aH (aJ q hn)]; exact q
 frzs:=fun b u xs q=>by rw [aH (aJ q hn)]; exact q
 tbls:=fun b ps q=>⟨#[],by rw [aH (aJ q hn),q]; simp⟩
theorem Un.write (mu : Mut (H x)) (he : e = x∨H e = some (.own x)) (k : ∀ b u,b ≠ e→h.get? b = some u→h'.get? b = some u) (heo : ∃ u,h'.get? e = some u) : Un fs ex H (upd H x o) h h':=by
 have hx : ∀ b,H b = none→b ≠ x:=fun b n z=>by subst z; rw [n] at mu; exact mu
 have hb : ∀ b,H b = none→b ≠ e:=fun b n z=>by
  subst z
  rcases he with r | r
  ·exact hx b n r
  ·rw [n] at r; cases r
 have hm : ∀ b u,H b = some u→¬ Mut (some u)→b ≠ x:=fun b u q nm z=>by subst z; rw [q] at mu; exact nm mu
 refine ⟨fun b u q n _ _=>k b u (hb b n) q,fun b u q n _ _=>⟨u.slots,k b u (hb b n) q⟩,fun b u q n _=>by rw [aH (hx b n)]; exact n,fun b u q _=>?_,
  fun b xs q=>by rw [aH (hm b _ q fun z=>z)]; exact q,fun b u xs q=>by rw [aH (hm b _ q fun z=>z)]; exact q,fun b ps q=>⟨#[],by rw [aH (hm b _ q fun z=>z),q]; simp⟩⟩
 by_cases hbe : b = e
 ·subst hbe; exact heo
 ·exact ⟨u,k b u hbe q⟩
end
def trk (h : Heap) (H : Hp) : List Addr:=(List.range h.objs.size).filter fun a=>(H a).isSome
def hidT (h : Heap) (H : Hp) : Heap:=PySem.W.hideAll h (trk h H)
theorem zL (h : Heap) (H : Hp) : (hidT h H).objs.size = h.objs.size:=PySem.W.hideAll_size _ _
theorem aBc {h : Heap} {H : Hp} {b : Addr} {o : Obj} (e : h.get? b = some o) (n : H b = none) : (hidT h H).get? b = some o :=
 PySem.W.hideAll_get _ e fun hm=>by
  have q : (H b).isSome = true:=(List.mem_filter.mp hm).2
  rw [n] at q; simp at q
theorem aCp {h : Heap} {H : Hp} {b : Addr} {o : Obj} (e : (hidT h H).get? b = some o) : h.get? b = some o∧H b = none:=by
 have e' : h.get? b = some o:=PySem.W.of_hideAll (trk h H) e
 refine ⟨e',?_⟩
 cases q : H b with
 | none=>rfl
 | some x =>
  have hm : b∈trk h H:=List.mem_filter.mpr ⟨List.mem_range.mpr (Heap.lt_size e'),by simp [q]⟩
  have z : (hidT h H).get? b = none:=PySem.W.hideAll_none (trk h H) hm
  rw [z] at e; cases e
def fQ (g h : Heap) (L : Addr) : List (Addr × Obj):=(List.range h.objs.size).filterMap fun a=>if a = L∨(g.get? a).isSome = true then none else (h.get? a).map fun o=>(a,o)
theorem iP {g h : Heap} {L a : Addr} {o : Obj} (h1 : a ≠ L) (h2 : g.get? a = none) (h3 : h.get? a = some o) : (a,o)∈fQ g h L :=
 List.mem_filterMap.mpr ⟨a,List.mem_range.mpr (Heap.lt_size h3),by simp [h1,h2,h3]⟩
theorem oW {g h : Heap} {L : Addr} {p : Addr × Obj} (hp : p∈fQ g h L) : p.1 ≠ L∧g.get? p.1 = none∧h.get? p.1 = some p.2:=by
 obtain ⟨b,_,e⟩:=List.mem_filterMap.mp hp
 split at e
 ·cases e
 ·rename_i hn
  cases q : h.get? b with
  | none=>rw [q] at e; simp at e
  | some u =>
   rw [q] at e
   simp only [Option.map_some,Option.some.injEq] at e
   subst e
   refine ⟨fun z=>hn (.inl z),?_,q⟩
   show g.get? b = none
   cases r : g.get? b with
   | none=>rfl
   | some v=>exact (hn (.inr (by simp [r]))).elim
theorem aBd {g h : Heap} {L : Addr} : News g L h (fQ g h L):=fun p hp=>let ⟨a,b,c⟩:=oW hp; ⟨c,a,b⟩
end L2
namespace L2
open PySem PySem.Spec PyProof.Rows
structure Mod (K : PySem.W.Frag) (mg : Str→Option Value) (base : Heap) : Prop where
 kin : K.In base
 glob : base.Ns mainGlobals mg
 blt : ∃ mb,base.Ns builtinsNs mb∧∀ x : Str,x ≠ "__name__" → mb x = bootBuiltins x
 nolimit : base.NoLimit
structure Cx where
 prog : Program
 w : World
 K : PySem.W.Frag
 mg : Str→Option Value
 base : Heap
 A : Around
 N : List Str
 s₀ : Shared
 H₀ : Hp
 env : Env
 outer : List Env
 stack : List Env
 ex : List Addr
 fn : Str→Bool
 calm : Bool
 pn : List (Addr × Obj)
 xe : Value→Shared→Prop
def frs (l : List Env) : List Addr:=l.filterMap (·.frame)
abbrev Cx.fs (X : Cx) : List Addr:=frs X.outer
def Vis (sc : Scope) (x : Str) : Prop:=sc.names.lookup x = some .local∨sc.names.lookup x = some .cell∨sc.names.lookup x = some .free
def Loc (sc : Scope) (x : Str) : Prop:=sc.names.lookup x = some .local∨sc.names.lookup x = some .cell
def Look (env : Env) (h : Heap) (m : Str→Option Value) (x : Str) (u : Value) : Prop :=
 (env.kindOf x = some .local∧m x = some u)∨((env.kindOf x = some .cell∨env.kindOf x = some .free)∧∃ c,env.cells.lookup x = some c∧h.IsCell c (some u))
structure Cx.Ok (X : Cx) : Prop where
 mod : Mod X.K X.mg X.base
 kind : X.env.scope.kind = .function
 glob : X.env.globals = mainGlobals
 blt : X.env.builtins = builtinsNs
 above : X.s₀.heap.objs.size ≤ X.env.locals
 inj : ∀ x y c,X.env.cells.lookup x = some c→X.env.cells.lookup y = some c→x = y
 has : ∀ x,(X.env.kindOf x = some .cell∨X.env.kindOf x = some .free)→∃ c,X.env.cells.lookup x = some c
 cab : ∀ x c,X.fn x = true→X.env.cells.lookup x = some c→X.s₀.heap.objs.size ≤ c
 hd : X.calm = true→X.A.handled = none
 frames : X.A.frames = some X.stack
 stk : X.stack = X.outer∨(X.stack = X.env :: X.outer∧X.env.frame = some X.env.locals)
 exf : ∀ b∈X.ex,b ≠ X.env.locals∧∀ x c,X.env.cells.lookup x = some c→c ≠ b
 bs : ∀ b o,X.base.get? b = some o→X.s₀.heap.get? b = some o∧X.H₀ b = none
 bsz : X.base.objs.size ≤ X.s₀.heap.objs.size
 noex : ∀ b o,X.base.get? b = some o→b ∉ X.ex
 exfs : ∀ b∈X.ex,b ∉ X.fs
 funs : X.s₀.heap.FunFrames X.base X.outer
 frf : ∀ b∈X.fs,X.H₀ b = none
structure Inv (X : Cx) (pins : List (Addr × Obj)) (σ : List (Option V)) (H : Hp) (s : Shared) : Prop where
 ok : X.Ok
 os : s.os = X.s₀.os
 bare : AllBare s.gens
 base : Un X.fs X.ex X.H₀ H X.s₀.heap s.heap
 loc : ∃ m,s.heap.Ns X.env.locals m∧∀ (i : Nat) (x : Str) (v : V),X.N[i]? = some x→σ[i]? = some (some v)→Vis X.env.scope x→∃ u,RelV v u∧Look X.env s.heap m x u
 cell : ∀ x c,X.env.cells.lookup x = some c→∃ v,s.heap.IsCell c v
 free : H X.env.locals = none
 freeC : ∀ x c,X.env.cells.lookup x = some c→H c = none
 pin : ∀ p∈X.pn ++ pins,s.heap.get? p.1 = some p.2∧H p.1 = none∧p.1 ≠ X.env.locals∧p.1 ∉ X.fs∧∀ v,p.2.data ≠ .cell v
 hok : HOk X.prog X.w H s.heap
 len : σ.length = X.N.length
section
variable {X : Cx} {pins : List (Addr × Obj)} {σ : List (Option V)} {H H' : Hp} {s : Shared} {h' : Heap}
theorem Cx.Ok.nofr (ok : X.Ok) {b : Addr} {o : Obj} (e : X.base.get? b = some o) : b ∉ X.fs:=fun hb=>by
 have:=(ok.funs.mem hb).1
 rw [e] at this; cases this
theorem Inv.bs (I : Inv X pins σ H s) : ∀ b o,X.base.get? b = some o→s.heap.get? b = some o∧H b = none:=fun b o e =>
 ⟨I.base.keep b o (I.ok.bs b o e).1 (I.ok.bs b o e).2 (I.ok.nofr e) (I.ok.noex b o e),I.base.free b o (I.ok.bs b o e).1 (I.ok.bs b o e).2 (I.ok.noex b o e)⟩
theorem Inv.bk (I : Inv X pins σ H s) : ∀ b o,X.base.get? b = some o→s.heap.get? b = some o:=fun b o e=>(I.bs b o e).1
theorem Inv.mod (I : Inv X pins σ H s) : Mod X.K X.mg X.base:=I.ok.mod
theorem Inv.kIn (I : Inv X pins σ H s) : X.K.In s.heap:=I.ok.mod.kin.keeps I.bk
theorem Inv.fr (I : Inv X pins σ H s) : ∃ m,Fr X.base X.env.locals s.heap m :=
 let ⟨m,hn,_⟩:=I.loc
 ⟨m,hn,I.bk,Nat.le_trans I.ok.bsz I.ok.above⟩
theorem Inv.lt (I : Inv X pins σ H s) : X.env.locals < s.heap.objs.size:=let ⟨_,hn,_⟩:=I.loc; hn.lt
theorem Inv.sz (I : Inv X pins σ H s) : X.s₀.heap.objs.size ≤ s.heap.objs.size:=Nat.le_trans I.ok.above (Nat.le_of_lt I.lt)
theorem Inv.nofs (I : Inv X pins σ H s) {a : Addr} (h : s.heap.objs.size ≤ a) : a ∉ X.fs:=fun hb=>by
 obtain ⟨_,o,ho,_⟩:=I.ok.funs.mem hb
 exact absurd (Nat.lt_of_lt_of_le (Heap.lt_size ho) (Nat.le_trans I.sz h)) (Nat.lt_irrefl _)
theorem Inv.cne (I : Inv X pins σ H s) : ∀ x c,X.env.cells.lookup x = some c→c ≠ X.env.locals:=fun x c e z=>by
 obtain ⟨v,o,ho,hd⟩:=I.cell x c e
 obtain ⟨m,⟨o',es,ep,ho',hd',_⟩,_⟩:=I.loc
 rw [z,ho'] at ho; cases ho; rw [hd'] at hd; cases hd
theorem Inv.funs (I : Inv X pins σ H s) : s.heap.FunFrames X.base X.outer:=by
 have all : ∀ (l : List Env),(∀ b∈frs l,b∈X.fs)→X.s₀.heap.FunFrames X.base l→s.heap.FunFrames X.base l:=by
  intro l
  induction l with
  | nil=>intro _ _; trivial
  | cons env r ih =>
   intro hs hl
   obtain ⟨hk,⟨L,o,hf,hn,ho,hd⟩,hr⟩:=hl
   have hL : L∈X.fs:=hs L (by unfold frs; rw [List.filterMap_cons,hf]; exact List.mem_cons_self)
   obtain ⟨sl,e⟩:=I.base.slot L o ho (I.ok.frf L hL) hL fun z=>I.ok.exfs L z hL
   exact ⟨hk,⟨L,_,hf,hn,e,hd⟩,ih (fun b hb=>hs b (by unfold frs; rw [List.filterMap_cons,hf]; exact List.mem_cons_of_mem _ hb)) hr⟩
 exact all X.outer (fun _ hb=>hb) I.ok.funs
theorem Inv.stack (I : Inv X pins σ H s) : s.heap.FunFrames X.base X.stack:=by
 rcases I.ok.stk with e | ⟨e,hf⟩
 ·rw [e]; exact I.funs
 ·rw [e]
  obtain ⟨m,hn,_⟩:=I.loc
  refine .cons (by rw [I.ok.kind]; decide) hf hn ?_ I.funs
  exact Heap.get?_none_of_le (Nat.le_trans I.ok.bsz I.ok.above)
theorem Inv.stkSub (I : Inv X pins σ H s) : ∀ b∈frs X.stack,b∈X.env.locals :: X.fs:=fun b hb=>by
 rcases I.ok.stk with e | ⟨e,hf⟩
 ·rw [e] at hb; exact List.mem_cons_of_mem _ hb
 ·rw [e] at hb
  unfold frs at hb
  rw [List.filterMap_cons,hf] at hb
  exact hb
theorem Inv.stkFree (I : Inv X pins σ H s) : ∀ b∈frs X.stack,H b = none:=fun b hb=>by
 rcases List.mem_cons.mp (I.stkSub b hb) with e | hb
 ·rw [e]; exact I.free
 ·obtain ⟨_,o,ho,_⟩:=I.ok.funs.mem hb
  exact I.base.free b o ho (I.ok.frf b hb) fun z=>I.ok.exfs b z hb
theorem Inv.step {g' : Array GenState} {t' : Nat} {d' : Drawn} {ch : List Addr} (I : Inv X pins σ H s)
  (hch : ∀ b∈ch,(b∈X.ex∨X.s₀.heap.objs.size ≤ b)∧b ≠ X.env.locals∧(∀ x c,X.env.cells.lookup x = some c→c ≠ b)∧∀ p∈X.pn ++ pins,p.1 ≠ b)
  (keep : ∀ b o,b ≠ X.env.locals→b ∉ X.fs→b ∉ ch→s.heap.get? b = some o→H b = none→h'.get? b = some o)
  (slot : ∀ b o,b ≠ X.env.locals→b∈X.fs→b ∉ ch→s.heap.get? b = some o→H b = none→∃ sl,h'.get? b = some { o with slots:=sl }) (free : ∀ b o,b ∉ ch→s.heap.get? b = some o→H b = none→H' b = none)
  (there : ∀ b o,b ∉ ch→s.heap.get? b = some o→∃ o',h'.get? b = some o')
  (tups : ∀ b xs,H b = some (.tup xs)→H' b = some (.tup xs)) (frzs : ∀ b o u,H b = some (.frz o u)→H' b = some (.frz o u)) (tbls : ∀ b ps,H b = some (.tbl ps)→∃ more,H' b = some (.tbl (ps ++ more)))
  (ns : ∀ m,s.heap.Ns X.env.locals m→h'.Ns X.env.locals m) (hok : HOk X.prog X.w H' h') (hg : AllBare g') :
  Inv X pins σ H' { s with heap:=h',gens:=g',drawn:=d',toks:=t' }:=by
 have neL : ∀ b o,X.s₀.heap.get? b = some o→b ≠ X.env.locals:=fun b o e=>Nat.ne_of_lt (Nat.lt_of_lt_of_le (Heap.lt_size e) I.ok.above)
 have neC : ∀ b o,X.s₀.heap.get? b = some o→b ∉ X.ex→b ∉ ch:=fun b o e hx hb=>by
  rcases (hch b hb).1 with z | z
  ·exact hx z
  ·exact absurd (Nat.lt_of_lt_of_le (Heap.lt_size e) z) (Nat.lt_irrefl _)
 have cellK : ∀ x c,X.env.cells.lookup x = some c→∀ v,s.heap.IsCell c v→h'.IsCell c v:=fun x c e v ⟨o,ho,hd⟩=>by
  have nch : c ∉ ch:=fun z=>(hch c z).2.2.1 x c e rfl
  by_cases hc : c∈X.fs
  ·obtain ⟨sl,q⟩:=slot c o (I.cne x c e) hc nch ho (I.freeC x c e)
   exact ⟨_,q,hd⟩
  ·exact ⟨o,keep c o (I.cne x c e) hc nch ho (I.freeC x c e),hd⟩
 refine ⟨I.ok,I.os,hg,⟨fun b o e n hb hx=>?_,fun b o e n hb hx=>?_,fun b o e n hx=>?_,fun b o e hx=>?_,fun b xs e=>tups b xs (I.base.tups b xs e),fun b o xs e=>frzs b o xs (I.base.frzs b o xs e),fun b ps e=>?_⟩,?_,fun x c e=>?_,?_,fun x c e=>?_,fun p hp=>?_,hok,I.len⟩
 ·exact keep b o (neL b o e) hb (neC b o e hx) (I.base.keep b o e n hb hx) (I.base.free b o e n hx)
 ·obtain ⟨sl,e1⟩:=I.base.slot b o e n hb hx
  obtain ⟨sl',e2⟩:=slot b _ (neL b o e) hb (neC b o e hx) e1 (I.base.free b o e n hx)
  exact ⟨sl',e2⟩
 ·obtain ⟨o',e1⟩:=I.base.there b o e hx
  exact free b o' (neC b o e hx) e1 (I.base.free b o e n hx)
 ·obtain ⟨o',e1⟩:=I.base.there b o e hx
  exact there b o' (neC b o e hx) e1
 ·obtain ⟨m1,e1⟩:=I.base.tbls b ps e
  obtain ⟨m2,e2⟩:=tbls b _ e1
  exact ⟨m1 ++ m2,by rw [e2,Array.append_assoc]⟩
 ·obtain ⟨m,hn,hl⟩:=I.loc
  refine ⟨m,ns m hn,fun i x v e1 e2 e3=>?_⟩
  obtain ⟨u,r,l⟩:=hl i x v e1 e2 e3
  refine ⟨u,r,?_⟩
  rcases l with l | ⟨k,c,e,z⟩
  ·exact .inl l
  ·exact .inr ⟨k,c,e,cellK x c e _ z⟩
 ·obtain ⟨v,z⟩:=I.cell x c e
  exact ⟨v,cellK x c e v z⟩
 ·obtain ⟨m,⟨o,_,_,ho,_⟩,_⟩:=I.loc
  exact free _ o (fun z=>(hch _ z).2.1 rfl) ho I.free
 ·obtain ⟨v,o,ho,hd⟩:=I.cell x c e
  exact free c o (fun z=>(hch c z).2.2.1 x c e rfl) ho (I.freeC x c e)
 ·obtain ⟨e,n,ne,nf,d⟩:=I.pin p hp
  have nch : p.1 ∉ ch:=fun z=>(hch p.1 z).2.2.2 p hp rfl
  exact ⟨keep p.1 p.2 ne nf nch e n,free p.1 p.2 nch e n,ne,nf,d⟩
theorem Inv.un {t' : Nat} (I : Inv X pins σ H s) (u : Un X.fs [] H H' s.heap h') (hok : HOk X.prog X.w H' h') : Inv X pins σ H' { s with heap:=h',toks:=t' }:=by
 obtain ⟨m,⟨o,es,ep,ho,r⟩,_⟩:=id I.loc
 obtain ⟨sl,hL⟩:=u.any ho I.free (by simp)
 exact I.step (g':=s.gens) (d':=s.drawn) (ch:=[]) (fun _ z=>nomatch z) (fun b o _ hb _ e n=>u.keep b o e n hb (by simp)) (fun b o _ hb _ e n=>u.slot b o e n hb (by simp)) (fun b o _ e n=>u.free b o e n (by simp)) (fun b o _ e=>u.there b o e (by simp)) u.tups u.frzs u.tbls (fun m' hm=>by
  obtain ⟨o',es',ep',ho',r'⟩:=hm
  rw [ho] at ho'; cases ho'
  exact ⟨_,es',ep',hL,r'⟩) hok I.bare
theorem Inv.call {g' : Array GenState} {t' : Nat} {d' : Drawn} {ch : List Addr} (I : Inv X pins σ H s) (u : Un (frs X.stack) ch H H' s.heap h') (hok : HOk X.prog X.w H' h') (hg : AllBare g')
  (hch : ∀ b∈ch,(b∈X.ex∨X.s₀.heap.objs.size ≤ b)∧b ≠ X.env.locals∧(∀ x c,X.env.cells.lookup x = some c→c ≠ b)∧∀ p∈X.pn ++ pins,p.1 ≠ b) :
  Inv X pins σ H' { s with heap:=h',gens:=g',drawn:=d',toks:=t' }:=by
 obtain ⟨m,⟨o,es,ep,ho,r⟩,_⟩:=id I.loc
 obtain ⟨sl,hL⟩:=u.any ho I.free fun z=>(hch _ z).2.1 rfl
 exact I.step (ch:=ch) hch (fun b o hL hb hc e n=>u.keep b o e n (fun z=>(List.mem_cons.mp (I.stkSub b z)).elim hL hb) hc) (fun b o _ _ hc e n=>u.any e n hc) (fun b o hc e n=>u.free b o e n hc) (fun b o hc e=>u.there b o e hc) u.tups u.frzs u.tbls (fun m' hm=>by
  obtain ⟨o',es',ep',ho',r'⟩:=hm
  rw [ho] at ho'; cases ho'
  exact ⟨_,es',ep',hL,r'⟩) hok hg
theorem Inv.turned {t' : Nat} {it : Addr} (I : Inv X pins σ H s) (k : ∀ b o,b ≠ it→s.heap.get? b = some o→h'.get? b = some o) (hn : H it = none) (hL : it ≠ X.env.locals)
  (h1 : it∈X.ex∨X.s₀.heap.objs.size ≤ it) (h2 : ∀ x c,X.env.cells.lookup x = some c→c ≠ it) (h3 : ∀ p∈X.pn ++ pins,p.1 ≠ it) : Inv X pins σ H { s with heap:=h',toks:=t' }:=by
 have nit : ∀ b u,H b = some u→b ≠ it:=fun b u e z=>by rw [z,hn] at e; cases e
 refine I.step (g':=s.gens) (d':=s.drawn) (ch:=[it]) (fun b hb=>?_) (fun b o _ _ hc e _=>k b o (fun z=>hc (by simp [z])) e) (fun b o _ _ hc e _=>⟨o.slots,k b o (fun z=>hc (by simp [z])) e⟩) (fun _ _ _ _ n=>n)
  (fun b o hc e=>⟨o,k b o (fun z=>hc (by simp [z])) e⟩) (fun _ _ e=>e) (fun _ _ _ e=>e) (fun b ps e=>⟨#[],by rw [e]; simp⟩) (fun m hm=>?_) (fun b u e=>?_) I.bare
 ·have e : b = it:=by simpa using hb
  subst e
  exact ⟨h1,hL,h2,h3⟩
 ·obtain ⟨o,es,ep,ho,r⟩:=hm
  exact ⟨o,es,ep,k _ o (Ne.symm hL) ho,r⟩
 ·refine (I.hok b u e).stay (fun c v hc q=>k c v ?_ q) (fun _ q=>q) fun _ _ q=>q
  rcases hc with z | z
  ·rw [z]; exact nit b u e
  ·exact nit c _ z
theorem Inv.tok (I : Inv X pins σ H s) (t : Nat) : Inv X pins σ H { s with toks:=t }:=I.un (h':=s.heap) (t':=t) Un.refl I.hok
theorem Inv.kept {t' : Nat} (I : Inv X pins σ H s) (k : ∀ b u,s.heap.get? b = some u→h'.get? b = some u) : Inv X pins σ H { s with heap:=h',toks:=t' }:=I.un (Un.kept k) (I.hok.kept k)
theorem Inv.laid {a : Addr} {o : HO} {t' : Nat} (I : Inv X pins σ H s) (k : ∀ b u,s.heap.get? b = some u→h'.get? b = some u) (hp : s.heap.objs.size ≤ a) (new : bP X.prog X.w (upd H a o) h' a o) :
  Inv X pins σ (upd H a o) { s with heap:=h',toks:=t' }:=I.un (Un.laid k hp (I.hok.fresh hp)) (I.hok.laid k hp new)
theorem Inv.write {x e : Addr} {o : HO} {t' : Nat} (I : Inv X pins σ H s) (mu : Mut (H x)) (he : e = x∨H e = some (.own x)) (k : ∀ b u,b ≠ e→s.heap.get? b = some u→h'.get? b = some u) (heo : ∃ u,h'.get? e = some u)
  (new : bP X.prog X.w (upd H x o) h' x o) : Inv X pins σ (upd H x o) { s with heap:=h',toks:=t' }:=I.un (Un.write mu he k heo) (I.hok.write mu he k heo new)
theorem Inv.pins_of {pins' : List (Addr × Obj)} (I : Inv X pins σ H s) (h : ∀ p∈pins',s.heap.get? p.1 = some p.2∧H p.1 = none∧p.1 ≠ X.env.locals∧p.1 ∉ X.fs∧∀ v,p.2.data ≠ .cell v) : Inv X pins' σ H s :=
 ⟨I.ok,I.os,I.bare,I.base,I.loc,I.cell,I.free,I.freeC,fun p hp=>(List.mem_append.mp hp).elim (fun z=>I.pin p (List.mem_append_left _ z)) (h p),I.hok,I.len⟩
theorem rW {N : List Str} (hN : N.Nodup) {i j : Nat} {x : Str} (a : N[i]? = some x) (b : N[j]? = some x) : i = j:=by
 obtain ⟨h1,e1⟩:=List.getElem?_eq_some_iff.mp a
 obtain ⟨h2,e2⟩:=List.getElem?_eq_some_iff.mp b
 exact (List.getElem_inj hN).mp (e1.trans e2.symm)
theorem qF {M : Model} {A : Around} {E : Value→Shared→Prop} {i : Nat} {x : Str} {v : V} {u : Value} {Q : Unit→Shared→Prop} (I : Inv X pins σ H s) (hN : X.N.Nodup) (hi : X.N[i]? = some x) (hx : Loc X.env.scope x) (r : RelV v u)
  (h : ∀ s',Inv X pins (σ.set i (some v)) H s'→(∃ a,Heap.SameBut a s.heap s'.heap∧(a = X.env.locals∨X.env.cells.lookup x = some a))→Q () s') (hf : X.fn x = true∨X.env.scope.names.lookup x = some .local:=by first | exact .inl rfl | exact .inr rfl | assumption) : wpAny M A (storeName X.env x u) Q E s:=by
 obtain ⟨m,hn,hl⟩:=id I.loc
 have hcls : (X.env.scope.kind == .class || (X.env.scope.kind == .module && X.env.locals != X.env.globals)) = false:=by rw [I.ok.kind]; rfl
 have hiσ : i < σ.length:=by rw [I.len]; exact (List.getElem?_eq_some_iff.mp hi).1
 have cne:=I.cne
 have tracked : ∀ {a : Addr} {h' : Heap},(∃ o,s.heap.get? a = some o∧H a = none)→Heap.SameBut a s.heap h'→HOk X.prog X.w H h':=fun {a h'} ha hs b ob e=>by
  obtain ⟨_,_,hfree⟩:=ha
  refine (I.hok b ob e).stay (fun c w' hc q=>(hs.2 c ?_).trans q) (fun _ q=>q) fun _ _ q=>q
  rintro rfl
  rcases hc with rfl | hc
  ·rw [hfree] at e; cases e
  ·rw [hfree] at hc; cases hc
 rcases hx with hk | hk
 ·refine wpAny_storeName_local hk hn (fun h' hn' hs=>?_) hcls
  obtain ⟨oL,_,_,hoL,_⟩:=id hn
  refine h _ ⟨I.ok,I.os,I.bare,⟨fun b o e n hb hx=>?_,fun b o e n hb hx=>?_,I.base.free,fun b o e hx=>?_,I.base.tups,I.base.frzs,I.base.tbls⟩,⟨_,hn',fun j y v' e1 e2 e3=>?_⟩,fun y c e=>?_,I.free,I.freeC,fun p hp=>?_,tracked ⟨oL,hoL,I.free⟩ hs,by simpa using I.len⟩ ⟨_,hs,.inl rfl⟩
  ·exact (hs.2 b (Nat.ne_of_lt (Nat.lt_of_lt_of_le (Heap.lt_size e) I.ok.above))).trans (I.base.keep b o e n hb hx)
  ·obtain ⟨sl,e1⟩:=I.base.slot b o e n hb hx
   exact ⟨sl,(hs.2 b (Nat.ne_of_lt (Nat.lt_of_lt_of_le (Heap.lt_size e) I.ok.above))).trans e1⟩
  ·obtain ⟨o',e1⟩:=I.base.there b o e hx
   exact ⟨o',(hs.2 b (Nat.ne_of_lt (Nat.lt_of_lt_of_le (Heap.lt_size e) I.ok.above))).trans e1⟩
  ·by_cases hj : j = i
   ·subst hj
    rw [hi] at e1; cases e1
    rw [List.getElem?_set_self hiσ] at e2
    cases e2
    exact ⟨u,r,.inl ⟨hk,by simp⟩⟩
   ·rw [List.getElem?_set_ne (Ne.symm hj)] at e2
    obtain ⟨u',r',q⟩:=hl j y v' e1 e2 e3
    refine ⟨u',r',?_⟩
    rcases q with ⟨k,e⟩ | ⟨k,c,e,z⟩
    ·refine .inl ⟨k,?_⟩
     have : y ≠ x:=fun e=>hj (rW hN e1 (e ▸ hi))
     simp [this,e]
    ·exact .inr ⟨k,c,e,z.sameBut hs (cne y c e)⟩
  ·obtain ⟨w',z⟩:=I.cell y c e
   exact ⟨w',z.sameBut hs (cne y c e)⟩
  ·obtain ⟨e,n,ne,nf,d⟩:=I.pin p hp
   exact ⟨(hs.2 p.1 ne).trans e,n,ne,nf,d⟩
 ·have hfn : X.fn x = true:=by
   rcases hf with z | z
   ·exact z
   ·rw [z] at hk; cases hk
  obtain ⟨c,hc⟩:=I.ok.has x (.inl hk)
  obtain ⟨w',z⟩:=I.cell x c hc
  refine wpAny_storeName_cell I.ok.kind hk hc z (fun h' hc' hs=>?_)
  obtain ⟨oc,hoc,hocd⟩:=id z
  refine h { s with heap:=h' } ⟨I.ok,I.os,I.bare,⟨fun b o e n hb hx=>?_,fun b o e n hb hx=>?_,I.base.free,fun b o e hx=>?_,I.base.tups,I.base.frzs,I.base.tbls⟩,⟨m,hn.sameBut hs (Ne.symm (cne x c hc)),fun j y v' e1 e2 e3=>?_⟩,fun y c' e=>?_,I.free,I.freeC,fun p hp=>?_,tracked ⟨oc,hoc,I.freeC x c hc⟩ hs,by simpa using I.len⟩ ⟨c,hs,.inr hc⟩
  ·exact (hs.2 b (Nat.ne_of_lt (Nat.lt_of_lt_of_le (Heap.lt_size e) (I.ok.cab x c hfn hc)))).trans (I.base.keep b o e n hb hx)
  ·obtain ⟨sl,e1⟩:=I.base.slot b o e n hb hx
   exact ⟨sl,(hs.2 b (Nat.ne_of_lt (Nat.lt_of_lt_of_le (Heap.lt_size e) (I.ok.cab x c hfn hc)))).trans e1⟩
  ·obtain ⟨o',e1⟩:=I.base.there b o e hx
   exact ⟨o',(hs.2 b (Nat.ne_of_lt (Nat.lt_of_lt_of_le (Heap.lt_size e) (I.ok.cab x c hfn hc)))).trans e1⟩
  ·by_cases hj : j = i
   ·subst hj
    rw [hi] at e1; cases e1
    rw [List.getElem?_set_self hiσ] at e2
    cases e2
    exact ⟨u,r,.inr ⟨.inl hk,c,hc,hc'⟩⟩
   ·rw [List.getElem?_set_ne (Ne.symm hj)] at e2
    obtain ⟨u',r',q⟩:=hl j y v' e1 e2 e3
    refine ⟨u',r',?_⟩
    rcases q with q | ⟨k,c',e,z'⟩
    ·exact .inl q
    ·refine .inr ⟨k,c',e,z'.sameBut hs ?_⟩
     rintro rfl
     exact hj (rW hN e1 (I.ok.inj _ _ _ e hc ▸ hi))
  ·by_cases hcc : c' = c
   ·subst hcc; exact ⟨_,hc'⟩
   ·obtain ⟨w2,z2⟩:=I.cell y c' e
    exact ⟨w2,z2.sameBut hs hcc⟩
  ·obtain ⟨e,n,ne,nf,d⟩:=I.pin p hp
   refine ⟨(hs.2 p.1 ?_).trans e,n,ne,nf,d⟩
   intro q
   rw [q,hoc] at e
   have q' : oc = p.2:=Option.some.inj e
   exact d w' (by rw [← q']; exact hocd)
theorem hJ {M : Model} {A : Around} {E : Value→Shared→Prop} {i : Nat} {x : Str} {v : V} {u : Value} {Q : Unit→Shared→Prop} (I : Inv X pins σ H s) (hN : X.N.Nodup) (hi : X.N[i]? = some x) (hx : Loc X.env.scope x) (r : RelV v u)
  (h : ∀ s',Inv X pins (σ.set i (some v)) H s'→Q () s') (hf : X.fn x = true∨X.env.scope.names.lookup x = some .local:=by first | exact .inl rfl | exact .inr rfl | assumption) : wpAny M A (storeName X.env x u) Q E s :=
 qF I hN hi hx r (fun s' I' _=>h s' I') hf
theorem Inv.call' {s' : Shared} {ch : List Addr} (I : Inv X pins σ H s) (ho : s'.os = s.os) (u : Un (frs X.stack) ch H H' s.heap s'.heap) (hok : HOk X.prog X.w H' s'.heap) (hg : AllBare s'.gens)
  (hch : ∀ b∈ch,(b∈X.ex∨X.s₀.heap.objs.size ≤ b)∧b ≠ X.env.locals∧(∀ x c,X.env.cells.lookup x = some c→c ≠ b)∧∀ p∈X.pn ++ pins,p.1 ≠ b) : Inv X pins σ H' s':=by
 obtain ⟨h',g',d',t',o'⟩:=s'
 have e : o' = s.os:=ho
 subst e
 exact I.call (g':=g') (t':=t') (d':=d') u hok hg hch
end
abbrev XK:=Value→Option Addr→Hp→Prop
abbrev St:=List (Option V)
abbrev VK:=V→Hp→Prop
abbrev TE:=St→Hp→VK→Prop
abbrev TT:=St→Hp→(Bool→Hp→Prop)→Prop
abbrev TA:=St→Hp→(List V→Hp→Prop)→Prop
structure Ends where
 nx : St→Hp→Prop
 rt : VK
 bk : St→Hp→Prop:=fun _ _=>False
 ct : St→Hp→Prop:=fun _ _=>False
abbrev TS:=Ends→St→Hp→Prop
def EP (X : Cx) (pins : List (Addr × Obj)) (σ : St) (Q : VK) (u : Value) (s' : Shared) : Prop:=∃ v H',Inv X pins σ H' s'∧RelV v u∧Q v H'
def TP (X : Cx) (pins : List (Addr × Obj)) (σ : St) (Q : Bool→Hp→Prop) (b : Bool) (s' : Shared) : Prop:=∃ H',Inv X pins σ H' s'∧Q b H'
def AP (X : Cx) (pins : List (Addr × Obj)) (σ : St) (Q : List V→Hp→Prop) (us : List Value) (s' : Shared) : Prop:=∃ vs H',Inv X pins σ H' s'∧Vals vs us∧Q vs H'
def SP (X : Cx) (pins : List (Addr × Obj)) (D : Ends) (f : Flow) (s' : Shared) : Prop :=
 match f with
 | .next=>∃ σ' H',Inv X pins σ' H' s'∧D.nx σ' H'
 | .brk=>∃ σ' H',Inv X pins σ' H' s'∧D.bk σ' H'
 | .cont=>∃ σ' H',Inv X pins σ' H' s'∧D.ct σ' H'
 | .ret u=>∃ v σ' H',Inv X pins σ' H' s'∧RelV v u∧D.rt v H'
def PE (X : Cx) (e : Expr) (t : TE) : Prop :=
 ∀ (pins : List (Addr × Obj)) (s : Shared) (σ : St) (H : Hp) (Q : VK),Inv X pins σ H s→t σ H Q→wpAny (model X.prog X.w) X.A (eval e X.env) (EP X pins σ Q) X.xe s
def PT (X : Cx) (e : Expr) (t : TT) : Prop :=
 ∀ (pins : List (Addr × Obj)) (s : Shared) (σ : St) (H : Hp) (Q : Bool→Hp→Prop),Inv X pins σ H s→t σ H Q→wpAny (model X.prog X.w) X.A (isTrue e X.env (eval e X.env)) (TP X pins σ Q) X.xe s
def PW (X : Cx) (e : Expr) (t : TT) : Prop :=
 ∀ (whole : Sem Value) (pins : List (Addr × Obj)) (s : Shared) (σ : St) (H : Hp) (Q : Bool→Hp→Prop),Inv X pins σ H s→t σ H Q→wpAny (model X.prog X.w) X.A (isTrue e X.env whole) (TP X pins σ Q) X.xe s
theorem PW.pt {X : Cx} {e : Expr} {t : TT} (h : PW X e t) : PT X e t:=h _
def PA (X : Cx) (es : List Expr) (t : TA) : Prop :=
 ∀ (pos : Pos) (pins : List (Addr × Obj)) (s : Shared) (σ : St) (H : Hp) (Q : List V→Hp→Prop),Inv X pins σ H s→t σ H Q→wpAny (model X.prog X.w) X.A (spliced (backTo pos (starEach es X.env))) (AP X pins σ Q) X.xe s
def PS (X : Cx) (st : Stmt) (t : TS) : Prop :=
 ∀ (pins : List (Addr × Obj)) (s : Shared) (σ : St) (H : Hp) (D : Ends),Inv X pins σ H s→t D σ H→wpAny (model X.prog X.w) X.A (exec st X.env) (SP X pins D) X.xe s
def PSs (X : Cx) (st : List Stmt) (t : TS) : Prop :=
 ∀ (pins : List (Addr × Obj)) (s : Shared) (σ : St) (H : Hp) (D : Ends),Inv X pins σ H s→t D σ H→wpAny (model X.prog X.w) X.A (execs st X.env) (SP X pins D) X.xe s
theorem thn {α : Type} {t : Sem α} {Q Q' : α→Shared→Prop} {M : Model} {A : Around} {E : Value→Shared→Prop} {s : Shared} (h : wpAny M A t Q E s) (hQ : ∀ a s,Q a s→Q' a s) : wpAny M A t Q' E s:=wpAny_mono h hQ fun _ _ x=>x
end L2
namespace L2
open PySem PySem.Spec PyProof.Rows
section
variable {X : Cx}
def tVar (i : Nat) : TE:=fun σ H Q=>∃ v,σ[i]? = some (some v)∧Q v H
def tC (v : V) : TE:=fun _ H Q=>Q v H
theorem aDv {i : Nat} {x : Str} {pos : Pos} (hN : X.N[i]? = some x) (hv : Vis X.env.scope x) (hd : (x == ("__debug__" : Str)) = false:=by decide) (hcd : (x == ("__classdict__" : Str)) = false:=by decide) : PE X (.Name x pos) (tVar i):=by
 intro pins s σ H Q I h
 obtain ⟨v,e,h⟩:=h
 obtain ⟨m,hn,hl⟩:=I.loc
 obtain ⟨u,r,l⟩:=hl i x v hN e hv
 have fin : EP X pins σ Q u s:=⟨v,H,I,r,h⟩
 rcases l with ⟨hk,hm⟩ | ⟨hk,c,hc,hcell⟩
 ·exact wpAny_Name (wpAny_loadName_local I.ok.kind hk hn hm fin) hd
 ·rcases hk with hk | hk
  ·exact wpAny_Name (wpAny_loadName_cell I.ok.kind hk hc hcell fin) hd
  ·exact wpAny_Name (wpAny_loadName_free I.ok.kind hk hc hcell fin hcd) hd
theorem aI {i j pos} : PE X (.Constant (.int i) j pos) (tC (.int i)):=fun _ _ _ H _ I h=>wpAny_Constant_int ⟨.int i,H,I.tok _,⟨_,rfl⟩,h⟩
theorem lC {b j pos} : PE X (.Constant (.bool b) j pos) (tC (.bl b)):=fun _ _ _ H _ I h=>Constant_bool ⟨.bl b,H,I,rfl,h⟩
theorem cB {j pos} : PE X (.Constant .none j pos) (tC .non):=fun _ _ _ H _ I h=>Constant_none ⟨.non,H,I,rfl,h⟩
theorem eS {x j pos} : PE X (.Constant (.str x) j pos) (tC (.str x)):=fun _ _ _ H _ I h=>Calls.Constant_str ⟨.str x,H,I.tok _,⟨_,rfl⟩,h⟩
def Gl (X : Cx) (x : Str) : Prop:=X.env.kindOf x = some .globalImplicit
theorem oX {E : Value→Shared→Prop} {pins : List (Addr × Obj)} {s : Shared} {σ : St} {H : Hp} {x : Str} {u : Value} {pos : Pos} {Q : Value→Shared→Prop} (I : Inv X pins σ H s) (hg : Gl X x) (hm : X.mg x = some u) (h : Q u s)
  (hd : (x == ("__debug__" : Str)) = false:=by decide) : wpAny (model X.prog X.w) X.A (eval (.Name x pos) X.env) Q E s :=
 Calls.Name_function_global I.ok.kind hg (Calls.loadGlobal_global (by rw [I.ok.glob]; exact I.mod.glob.keeps I.bk) hm h) hd
theorem iS {E : Value→Shared→Prop} {pins : List (Addr × Obj)} {s : Shared} {σ : St} {H : Hp} {x : Str} {u : Value} {pos : Pos} {Q : Value→Shared→Prop} (I : Inv X pins σ H s) (hg : Gl X x) (hm : X.mg x = none) (hv : bootBuiltins x = some u) (h : Q u s)
  (hn : x ≠ "__name__" := by decide) (hd : (x == ("__debug__" : Str)) = false:=by decide) : wpAny (model X.prog X.w) X.A (eval (.Name x pos) X.env) Q E s:=by
 obtain ⟨mb,h1,h2⟩:=I.mod.blt
 exact Calls.Name_function_global I.ok.kind hg (Calls.loadGlobal_builtin (by rw [I.ok.glob]; exact I.mod.glob.keeps I.bk) hm (by rw [I.ok.blt]; exact h1.keeps I.bk) ((h2 x hn).trans hv) h) hd
theorem oY {x : Str} {v : V} {u : Value} {pos : Pos} (hg : Gl X x) (hm : X.mg x = some u) (r : RelV v u) (hd : (x == ("__debug__" : Str)) = false:=by decide) : PE X (.Name x pos) (tC v) :=
 fun _ _ _ H _ I h=>oX I hg hm ⟨v,H,I,r,h⟩ hd
theorem eI {x : Str} {v : V} {u : Value} {pos : Pos} (hg : Gl X x) (hm : X.mg x = none) (hv : bootBuiltins x = some u) (r : RelV v u) (hn : x ≠ "__name__" := by decide) (hd : (x == ("__debug__" : Str)) = false:=by decide) : PE X (.Name x pos) (tC v) :=
 fun _ _ _ H _ I h=>iS I hg hm hv ⟨v,H,I,r,h⟩ hn hd
variable {a b : Expr} {ta tb : TE} {pos : Pos}
def PC (X : Cx) (op : CmpOp) (a b : Expr) (t : TE) : Prop :=
 ∀ (pins : List (Addr × Obj)) (s : Shared) (σ : St) (H : Hp) (Q : VK),Inv X pins σ H s→t σ H Q →
  wpAny (model X.prog X.w) X.A (eval a X.env) (fun v s₁=>wpAny (model X.prog X.w) X.A (eval b X.env) (fun u s₂=>wpAny (model X.prog X.w) X.A (compareOp op v u) (EP X pins σ Q) X.xe s₂) X.xe s₁) X.xe s
def tB (t : TE) : TT:=fun σ H Q=>t σ H fun x H1=>∃ c,x = .bl c∧Q c H1
theorem aDw {op : CmpOp} {t : TE} (h : PC X op a b t) (h1 : behindInMarks op b = false:=by first | exact nobehind _ (by decide) (by decide) | rfl) : PT X (.Compare a [op] [b] pos) (tB t):=by
 intro pins s σ H Q I hw
 refine wpAny_isTrue_Compare1 (thn (h pins s σ H _ I hw) fun v s1 h1=>thn h1 fun u s2 h2=>thn h2 fun c s3 ⟨x,H1,I1,r1,q1⟩=>?_) h1
 obtain ⟨d,rfl,q⟩:=q1
 cases r1
 exact wpAny_truthy_bool ⟨H1,I1,q⟩
theorem cU {e : Expr} {t : TE} (h : PE X e t) (he : ∀ whole,isTrue e X.env whole = (do let v ← whole; standAt e.pos; holding [v] (truthy v)):=by intro _; rfl) : PT X e (tB t):=by
 intro pins s σ H Q I hw
 refine isTrue_plain (thn (h pins s σ H _ I hw) fun v s1 ⟨x,H1,I1,r1,q1⟩=>?_) (he _)
 obtain ⟨d,rfl,q⟩:=q1
 cases r1
 exact wpAny_truthy_bool ⟨H1,I1,q⟩
variable {tA tB' : TT} {rest : List Expr}
def tAnd (t u : TT) : TT:=fun σ H Q=>t σ H fun c H1=>if c = true then u σ H1 Q else Q false H1
def tOr (t u : TT) : TT:=fun σ H Q=>t σ H fun c H1=>if c = true then Q true H1 else u σ H1 Q
def tNot (t : TT) : TT:=fun σ H Q=>t σ H fun c H1=>Q (!c) H1
theorem eJ (ha : PT X a tA) : PW X (.BoolOp .And [a] pos) tA:=by
 intro wh pins s σ H Q I h
 refine isTrue_and (thn (ha pins s σ H Q I h) fun c s1 e=>?_)
 cases c with
 | true=>exact isTrue_and_nil e
 | false=>exact e
theorem jV (ha : PT X a tA) : PW X (.BoolOp .Or [a] pos) tA:=by
 intro wh pins s σ H Q I h
 refine isTrue_or (thn (ha pins s σ H Q I h) fun c s1 e=>?_)
 cases c with
 | false=>exact isTrue_or_nil e
 | true=>exact e
theorem eT (ha : PT X a tA) (hb : PW X (.BoolOp .And (b :: rest) pos) tB') : PW X (.BoolOp .And (a :: b :: rest) pos) (tAnd tA tB'):=by
 intro wh pins s σ H Q I h
 refine isTrue_and (thn (ha pins s σ H _ I h) fun c s1 ⟨H1,I1,q1⟩=>?_)
 cases c with
 | true=>exact hb wh pins s1 σ H1 Q I1 q1
 | false=>exact ⟨H1,I1,q1⟩
theorem nC (ha : PT X a tA) (hb : PW X (.BoolOp .Or (b :: rest) pos) tB') : PW X (.BoolOp .Or (a :: b :: rest) pos) (tOr tA tB'):=by
 intro wh pins s σ H Q I h
 refine isTrue_or (thn (ha pins s σ H _ I h) fun c s1 ⟨H1,I1,q1⟩=>?_)
 cases c with
 | true=>exact ⟨H1,I1,q1⟩
 | false=>exact hb wh pins s1 σ H1 Q I1 q1
theorem eC (ha : PT X a tA) : PT X (.UnaryOp .Not a pos) (tNot tA):=by
 intro pins s σ H Q I h
 exact isTrue_not (ha pins s σ H (fun c H1=>Q (!c) H1) I h)
def aEi (ta tb : TE) : TE:=fun σ H Q=>ta σ H fun x H1=>∃ c,x = .bl c∧if c = true then tb σ H1 Q else Q (.bl false) H1
def aEj (ta : TE) : TE:=fun σ H Q=>ta σ H fun x H1=>∃ c,x = .bl c∧Q (.bl (!c)) H1
theorem jW {op} {t : TE} (h : PE X a t) : PE X (.BoolOp op [a] pos) t:=fun pins s σ H Q I hw=>BoolOp_one (h pins s σ H Q I hw)
theorem iT (ha : PE X a ta) (hb : PE X (.BoolOp .And (b :: rest) pos) tb) : PE X (.BoolOp .And (a :: b :: rest) pos) (aEi ta tb):=by
 intro pins s σ H Q I h
 refine BoolOp_and (thn (ha pins s σ H _ I h) fun v s1 ⟨x,H1,I1,r1,q1⟩=>?_)
 obtain ⟨c,rfl,q1⟩:=q1
 cases r1
 refine wpAny_truthy_bool ?_
 cases c with
 | true=>exact hb pins s1 σ H1 Q I1 q1
 | false=>exact ⟨.bl false,H1,I1,rfl,q1⟩
theorem aDx (ha : PE X a ta) : PE X (.UnaryOp .Not a pos) (aEj ta):=by
 intro pins s σ H Q I h
 refine UnaryOp_ (thn (ha pins s σ H _ I h) fun v s1 ⟨x,H1,I1,r1,q1⟩=>?_)
 obtain ⟨c,rfl,q1⟩:=q1
 cases r1
 exact not_of (wpAny_truthy_bool ⟨.bl (!c),H1,I1,rfl,q1⟩)
def tIf (t : TT) (ta tb : TE) : TE:=fun σ H Q=>t σ H fun c H1=>if c = true then ta σ H1 Q else tb σ H1 Q
theorem aBe {c : Expr} (hc : PT X c tA) (ha : PE X a ta) (hb : PE X b tb) : PE X (.IfExp c a b pos) (tIf tA ta tb):=by
 intro pins s σ H Q I h
 refine wpAny_IfExp (thn (hc pins s σ H _ I h) fun d s1 ⟨H1,I1,q1⟩=>?_)
 cases d with
 | true=>exact ha pins s1 σ H1 Q I1 q1
 | false=>exact hb pins s1 σ H1 Q I1 q1
end
end L2
namespace L2
open PySem PySem.Spec PyProof.Rows
def SqL (K : PySem.W.Frag) (H : Hp) (a : Addr) (xs : List V) : Prop :=
 Rd H a (.lst xs) ∨
  ∃ (o : Obj) (its : Array Value) (n : Nat),K.lookup a = some o∧o.cls = .type "list" ∧ o.dict = none∧o.data = .seq its n∧its.size ≤ sizeLine∧Vals xs its.toList
def SqT (K : PySem.W.Frag) (H : Hp) (a : Addr) (xs : List V) : Prop :=
 Rd H a (.tup xs) ∨
  ∃ (o : Obj) (its : Array Value) (n : Nat),K.lookup a = some o∧o.cls = .type "tuple" ∧ o.data = .seq its n∧its.size ≤ sizeLine∧Vals xs its.toList
def absV : Value→Option V
 | .none=>some .non
 | .bool b=>some (.bl b)
 | .int i _=>some (.int i)
 | .str x _=>some (.str x)
 | .bytes b _=>some (.byt b)
 | .float b _=>some (.flt b)
 | .ref a=>some (.ref a)
 | .type n=>some (.ty n)
 | _=>none
theorem RelV.abs {x : V} {u : Value} (r : RelV x u) : absV u = some x:=by
 cases x with
 | non=>cases r; rfl
 | bl _=>cases r; rfl
 | int _=>obtain ⟨t,rfl⟩:=r; rfl
 | str _=>obtain ⟨t,rfl⟩:=r; rfl
 | byt _=>obtain ⟨t,rfl⟩:=r; rfl
 | flt _=>obtain ⟨t,rfl⟩:=r; rfl
 | ref _=>cases r; rfl
 | ty _=>cases r; rfl
theorem RelV.inj {x y : V} {u : Value} (r : RelV x u) (q : RelV y u) : x = y:=Option.some.inj (r.abs.symm.trans q.abs)
theorem Vals.inj : ∀ {xs ys : List V} {us : List Value},Vals xs us→Vals ys us→xs = ys
 | _,_,_,.nil,.nil=>rfl
 | _,_,_,.cons r t,.cons r' t'=>by rw [r.inj r',Vals.inj t t']
section
variable {X : Cx} {pins : List (Addr × Obj)} {σ : St} {H : Hp} {s : Shared} {a : Addr} {xs ys : List V}
theorem SqL.of {K : PySem.W.Frag} (h : H a = some (.lst xs)) : SqL K H a xs:=.inl (.inl h)
theorem SqT.of {K : PySem.W.Frag} (h : H a = some (.tup xs)) : SqT K H a xs:=.inl (.inl h)
theorem Inv.list (I : Inv X pins σ H s) (h : SqL X.K H a xs) : ∃ its : List Value,Vals xs its∧PlainL s.heap a its.toArray∧xs.length ≤ sizeLine:=by
 rcases h with h | ⟨o,its,n,hk,hc,hd,hs,hz,r⟩
 ·obtain ⟨z,its,n,r,e⟩:=h.ok I.hok
  exact ⟨its,r,⟨_,n,e,rfl,rfl,rfl⟩,z⟩
 ·refine ⟨its.toList,r,⟨o,n,I.kIn a o hk,hc,hd,by simpa using hs⟩,?_⟩
  have e:=r.length
  simp only [Array.length_toList] at e
  lia
theorem Inv.tuple (I : Inv X pins σ H s) (h : SqT X.K H a xs) : ∃ its : List Value,Vals xs its∧IsTup s.heap a its.toArray∧xs.length ≤ sizeLine:=by
 rcases h with h | ⟨o,its,n,hk,hc,hs,hz,r⟩
 ·obtain ⟨z,its,r,p⟩:=h.ok I.hok
  exact ⟨its,r,p.tup,z⟩
 ·refine ⟨its.toList,r,⟨o,I.kIn a o hk,hc,n,by simpa using hs⟩,?_⟩
  have e:=r.length
  simp only [Array.length_toList] at e
  lia
theorem Inv.list_inj (I : Inv X pins σ H s) (h : SqL X.K H a xs) (h' : SqL X.K H a ys) : xs = ys:=by
 obtain ⟨its,r,⟨o,n,e,_,_,d⟩,_⟩:=I.list h
 obtain ⟨its',r',⟨o',n',e',_,_,d'⟩,_⟩:=I.list h'
 rw [e] at e'; cases e'
 rw [d] at d'
 injection d' with d1 _
 have : its = its':=by simpa using congrArg Array.toList d1
 subst this
 exact r.inj r'
theorem Inv.tuple_inj (I : Inv X pins σ H s) (h : SqT X.K H a xs) (h' : SqT X.K H a ys) : xs = ys:=by
 obtain ⟨its,r,⟨o,e,_,n,d⟩,_⟩:=I.tuple h
 obtain ⟨its',r',⟨o',e',_,n',d'⟩,_⟩:=I.tuple h'
 rw [e] at e'; cases e'
 rw [d] at d'
 injection d' with d1 _
 have : its = its':=by simpa using congrArg Array.toList d1
 subst this
 exact r.inj r'
end
abbrev Cx.wish (X : Cx) (E : Value→Shared→Prop) : Cx:={ X with xe:=E }
abbrev Cx.nox (X : Cx) : Cx:=X.wish fun _ _=>False
theorem Cx.Ok.wish {X : Cx} (ok : X.Ok) (E : Value→Shared→Prop) : (X.wish E).Ok :=
 ⟨ok.mod,ok.kind,ok.glob,ok.blt,ok.above,ok.inj,ok.has,ok.cab,ok.hd,ok.frames,ok.stk,ok.exf,ok.bs,ok.bsz,ok.noex,ok.exfs,ok.funs,ok.frf⟩
theorem Cx.Ok.unwish {X : Cx} {E : Value→Shared→Prop} (ok : (X.wish E).Ok) : X.Ok :=
 ⟨ok.mod,ok.kind,ok.glob,ok.blt,ok.above,ok.inj,ok.has,ok.cab,ok.hd,ok.frames,ok.stk,ok.exf,ok.bs,ok.bsz,ok.noex,ok.exfs,ok.funs,ok.frf⟩
section
variable {X : Cx} {pins : List (Addr × Obj)} {σ : St} {H : Hp} {s : Shared} {E : Value→Shared→Prop}
theorem Inv.wish (I : Inv X pins σ H s) (E : Value→Shared→Prop) : Inv (X.wish E) pins σ H s:=⟨I.ok.wish E,I.os,I.bare,I.base,I.loc,I.cell,I.free,I.freeC,I.pin,I.hok,I.len⟩
theorem Inv.unwish (I : Inv (X.wish E) pins σ H s) : Inv X pins σ H s:=⟨I.ok.unwish,I.os,I.bare,I.base,I.loc,I.cell,I.free,I.freeC,I.pin,I.hok,I.len⟩
theorem SP.unwish {D : Ends} {f : Flow} {s' : Shared} (h : SP (X.wish E) pins D f s') : SP X pins D f s':=by
 cases f with
 | next=>obtain ⟨σ',H',I,q⟩:=h; exact ⟨σ',H',I.unwish,q⟩
 | brk=>obtain ⟨σ',H',I,q⟩:=h; exact ⟨σ',H',I.unwish,q⟩
 | cont=>obtain ⟨σ',H',I,q⟩:=h; exact ⟨σ',H',I.unwish,q⟩
 | ret u=>obtain ⟨v,σ',H',I,r,q⟩:=h; exact ⟨v,σ',H',I.unwish,r,q⟩
theorem PSs.nox {st : List Stmt} {t : TS} (h : PSs X.nox st t) : PSs X st t:=fun pins s σ H D I hw =>
 wpAny_mono (h pins s σ H D (I.wish _) hw) (fun _ _ q=>q.unwish) fun _ _ z=>False.elim z
end
section
variable {X : Cx} {st : Stmt} {rest : List Stmt} {t u : TS} {e : Expr} {te : TE} {pos : Pos}
def xB : TS:=fun D σ H=>D.nx σ H
def tSeq (t u : TS) : TS:=fun D σ H=>t { D with nx:=u D } σ H
theorem aW : PSs X [] xB:=fun _ _ σ H _ I h=>wpAny_execs_nil ⟨σ,H,I,h⟩
theorem aE (h1 : PS X st t) (h2 : PSs X rest u) : PSs X (st :: rest) (tSeq t u):=by
 intro pins s σ H D I h
 refine wpAny_execs_cons (thn (h1 pins s σ H { D with nx:=u D } I h) fun f s1 q=>?_)
 cases f with
 | next =>
  obtain ⟨σ',H',I',q⟩:=q
  exact h2 pins s1 σ' H' D I' q
 | ret v=>exact q
 | brk=>exact q
 | cont=>exact q
theorem aG (h1 : PS X st t) : PSs X [st] t:=by
 intro pins s σ H D I h
 refine wpAny_execs_cons (thn (h1 pins s σ H D I h) fun f s1 q=>?_)
 cases f with
 | next=>exact wpAny_execs_nil q
 | ret v=>exact q
 | brk=>exact q
 | cont=>exact q
theorem Inv.quiet {pins : List (Addr × Obj)} {σ : St} {H : Hp} {s : Shared} (I : Inv X pins σ H s) : interactive X.env = false:=by simp [interactive,I.ok.kind]
def aEk (te : TE) : TS:=fun D σ H=>te σ H fun _ H1=>D.nx σ H1
theorem cM (he : PE X e te) (hs : swapsWith e none pos.line X.env = pure false:=by rfl) : PS X (.Expr e pos) (aEk te):=by
 intro pins s σ H D I h
 exact wpAny_Expr_any (thn (he pins s σ H _ I h) fun v s1 ⟨x,H1,I1,r1,q1⟩=>⟨σ,H1,I1,q1⟩) I.quiet hs
def tRet (te : TE) : TS:=fun D σ H=>te σ H D.rt
theorem aU (he : PE X e te) : PS X (.Return (some e) pos) (tRet te):=by
 intro pins s σ H D I h
 exact wpAny_Return_some (thn (he pins s σ H _ I h) fun v s1 ⟨x,H1,I1,r1,q1⟩=>⟨x,σ,H1,I1,r1,q1⟩)
def tIfS (c : TT) (t u : TS) : TS:=fun D σ H=>c σ H fun b H1=>if b = true then t D σ H1 else u D σ H1
theorem bG {c : Expr} {a b : List Stmt} {tc : TT} (hc : PT X c tc) (ha : PSs X a t) (hb : PSs X b u) : PS X (.If c a b pos) (tIfS tc t u):=by
 intro pins s σ H D I h
 refine wpAny_If (thn (hc pins s σ H _ I h) fun d s1 ⟨H1,I1,q1⟩=>?_)
 cases d with
 | true=>exact ha pins s1 σ H1 D I1 q1
 | false=>exact hb pins s1 σ H1 D I1 q1
def aDy : TS:=fun _ _ _=>False
theorem dI {sts : List Stmt} : PSs X sts aDy:=fun _ _ _ _ _ _ h=>h.elim
end
abbrev TG:=V→St→Hp→(St→Hp→Prop)→Prop
abbrev TGs:=List V→St→Hp→(St→Hp→Prop)→Prop
def PG (X : Cx) (target : Expr) (t : TG) : Prop :=
 ∀ (pins : List (Addr × Obj)) (s : Shared) (σ : St) (H : Hp) (v : V) (u : Value) (Q : St→Hp→Prop),Inv X pins σ H s→RelV v u→t v σ H Q →
  wpAny (model X.prog X.w) X.A (assign target X.env u) (fun _ s'=>∃ σ' H',Inv X pins σ' H' s'∧Q σ' H') X.xe s
def PGs (X : Cx) (ts : List Expr) (t : TGs) : Prop :=
 ∀ (pins : List (Addr × Obj)) (s : Shared) (σ : St) (H : Hp) (vs : List V) (us : List Value) (Q : St→Hp→Prop),Inv X pins σ H s→Vals vs us→t vs σ H Q →
  wpAny (model X.prog X.w) X.A (assignInOrder ((assignEach ts X.env).map (·.2)) us) (fun _ s'=>∃ σ' H',Inv X pins σ' H' s'∧Q σ' H') X.xe s
abbrev TSet:=V→V→V→Hp→(Hp→Prop)→Prop
def PSet (X : Cx) (t : TSet) : Prop :=
 ∀ (pins : List (Addr × Obj)) (s : Shared) (σ : St) (H : Hp) (o i v : V) (ov iv u : Value) (Q : Hp→Prop),Inv X pins σ H s→RelV o ov→RelV i iv→RelV v u→t o i v H Q →
  wpAny (model X.prog X.w) X.A (setItem ov iv u) (fun _ s'=>∃ H',Inv X pins σ H' s'∧Q H') X.xe s
abbrev TIp:=V→V→Hp→VK→Prop
def PIp (X : Cx) (op : Operator) (t : TIp) : Prop :=
 ∀ (pins : List (Addr × Obj)) (s : Shared) (σ : St) (H : Hp) (x y : V) (v u : Value) (Q : VK),Inv X pins σ H s→RelV x v→RelV y u→t x y H Q →
  wpAny (model X.prog X.w) X.A (inplaceOp op v u) (EP X pins σ Q) X.xe s
section
variable {X : Cx} {pos : Pos}
def bL (i : Nat) : TG:=fun v σ H Q=>Q (σ.set i (some v)) H
theorem aL {i : Nat} {x : Str} (hN : X.N.Nodup) (hi : X.N[i]? = some x) (hx : Loc X.env.scope x) (hf : X.fn x = true∨X.env.scope.names.lookup x = some .local:=by first | exact .inl rfl | exact .inr rfl | assumption) : PG X (.Name x pos) (bL i):=by
 intro pins s σ H v u Q I r h
 exact wpAny_assign_Name (hJ I hN hi hx r (fun s' I'=>⟨_,H,I',h⟩) hf)
def gNil : TGs:=fun vs σ H Q=>vs = []∧Q σ H
def gB (t : TG) (u : TGs) : TGs:=fun vs σ H Q=>∃ v r,vs = v :: r∧t v σ H fun σ' H'=>u r σ' H' Q
theorem cN : PGs X [] gNil:=by
 intro pins s σ H vs us Q I r h
 obtain ⟨e,h⟩:=h
 subst e
 cases r
 exact assignInOrder_nil ⟨σ,H,I,h⟩
theorem bF {e : Expr} {es : List Expr} {t : TG} {u : TGs} (h1 : PG X e t) (h2 : PGs X es u)
  (hs : (assignEach (e :: es) X.env).map (·.2) = assign e X.env :: (assignEach es X.env).map (·.2):=by rfl) : PGs X (e :: es) (gB t u):=by
 intro pins s σ H vs us Q I r h
 obtain ⟨v,vr,e1,h⟩:=h
 subst e1
 cases r with
 | cons r rr =>
  rw [hs]
  refine assignInOrder_cons (thn (h1 pins s σ H _ _ _ I r h) fun _ s1 ⟨σ1,H1,I1,q1⟩=>?_)
  exact h2 pins s1 σ1 H1 _ _ Q I1 rr q1
def gTup (K : PySem.W.Frag) (n : Nat) (t : TGs) : TG:=fun v σ H Q=>∃ a xs,v = .ref a∧SqT K H a xs∧xs.length = n∧t xs σ H Q
theorem dH {es : List Expr} {k : Nat} {t : TGs} {n : Nat} (hc : X.calm = true) (h : PGs X es t)
  (hn : (assignEach es X.env).length = n:=by rfl) (hst : (assignEach es X.env).findIdx? (·.1) = none:=by rfl) : PG X (.Tuple es k pos) (gTup X.K n t):=by
 intro pins s σ H v u Q I r hw
 obtain ⟨a,xs,e1,hq,hl,hw⟩:=hw
 subst e1
 cases r
 obtain ⟨its,rv,ht,hz⟩:=I.tuple hq
 refine assign_Tuple_tuple (I.ok.hd hc) ht (by simp [hn,← hl,rv.length]) hst fun h' hx=>?_
 have I1 : Inv X pins σ H { s with heap:=h' }:=I.kept (t':=s.toks) fun b o e=>hx b o (Nat.ne_of_lt (Heap.lt_size e)) e
 exact h pins _ σ H xs _ Q I1 (by simpa using rv) hw
def gSub (to ti : TE) (t : TSet) : TG:=fun v σ H Q=>to σ H fun o H1=>ti σ H1 fun i H2=>t o i v H2 fun H3=>Q σ H3
theorem hU {o i : Expr} {to ti : TE} {t : TSet} (ho : PE X o to) (hi : PE X i ti) (hs : PSet X t)
  (ha : ∀ v,assign (.Subscript o i pos) X.env v = (do
   let ov ← holding [v] (eval o X.env)
   let iv ← holding [v,ov] (eval i X.env)
   standAt pos
   holding [v,ov,iv] (setItem ov iv v)
   release [v,ov,iv] []):=by intro _; rfl) : PG X (.Subscript o i pos) (gSub to ti t):=by
 intro pins s σ H v u Q I r h
 rw [ha]
 refine wpAny_bind (wpAny_holding (thn (ho pins s σ H _ I h) fun ov s1 ⟨x,H1,I1,r1,q1⟩=>?_))
 refine wpAny_bind (wpAny_holding (thn (hi pins s1 σ H1 _ I1 q1) fun iv s2 ⟨y,H2,I2,r2,q2⟩=>?_))
 refine wpAny_bind (wpAny_standAt (wpAny_bind (wpAny_holding (thn (hs pins s2 σ H2 x y v ov iv u _ I2 r1 r2 r q2) fun _ s3 ⟨H3,I3,q3⟩=>?_))))
 exact wpAny_release ⟨σ,H3,I3,q3⟩
def tAsg (te : TE) (g : TG) : TS:=fun D σ H=>te σ H fun x H1=>g x σ H1 D.nx
theorem cV {tg e : Expr} {te : TE} {g : TG} (he : PE X e te) (hg : PG X tg g) (hs : swapsWithSole [tg] e pos.line X.env = pure false:=by rfl) (hw : swappedStores [tg] e X.env = pure none:=by rfl)
  (h1 : (assignEach [tg] X.env).map (·.2) = [assign tg X.env]:=by rfl) : PS X (.Assign [tg] e pos) (tAsg te g):=by
 intro pins s σ H D I h
 refine wpAny_Assign_stores (thn (he pins s σ H _ I h) fun v s1 ⟨x,H1,I1,r1,q1⟩=>?_) hs hw
 rw [h1]
 exact thn (hg pins s1 σ H1 x v _ I1 r1 q1) fun _ s2 q=>q
theorem aS {i : Nat} {x : Str} {e : Expr} {te : TE} {pos' : Pos} (hN : X.N.Nodup) (hi : X.N[i]? = some x) (hx : Loc X.env.scope x) (he : PE X e te) (hs : swapsWith e (some (.Name x pos')) pos.line X.env = pure false:=by rfl) (hf : X.fn x = true∨X.env.scope.names.lookup x = some .local:=by first | exact .inl rfl | exact .inr rfl | assumption) :
  PS X (.Assign [.Name x pos'] e pos) (tAsg te (bL i)):=by
 intro pins s σ H D I h
 refine wpAny_Assign_Name (thn (he pins s σ H _ I h) fun v s1 ⟨y,H1,I1,r1,q1⟩=>?_) hs
 exact hJ I1 hN hi hx r1 (fun s2 I2=>⟨_,H1,I2,q1⟩) hf
def tPar (i j : Nat) (ta : TA) : TS:=fun D σ H=>ta σ H fun vs H1=>∃ v w,vs = [v,w]∧D.nx ((σ.set i (some v)).set j (some w)) H1
theorem aDz {i j : Nat} {x y : Str} {a b : Expr} {ta : TA} {px py pt : Pos} {kt k2 pt2} (hc : X.calm = true) (hN : X.N.Nodup) (hi : X.N[i]? = some x) (hj : X.N[j]? = some y) (hij : i ≠ j)
  (hx : X.env.scope.names.lookup x = some .local) (hy : X.env.scope.names.lookup y = some .local) (ha : PA X [a,b] ta)
  (hw : swappedStores [.Tuple [.Name x px,.Name y py] kt pt] (.Tuple [a,b] k2 pt2) X.env = pure (some [x,y]))
  (hs : swapsWithSole [.Tuple [.Name x px,.Name y py] kt pt] (.Tuple [a,b] k2 pt2) pos.line X.env = pure false:=by rfl) :
  PS X (.Assign [.Tuple [.Name x px,.Name y py] kt pt] (.Tuple [a,b] k2 pt2) pos) (tPar i j ta):=by
 intro pins s σ H D I h
 rw [exec_Assign_arm]
 refine wpAny_bind (wpAny_standAt ?_)
 rw [hs]
 refine wpAny_bind (wpAny_pure ?_)
 rw [if_neg (by decide)]
 refine wpAny_bind (Tuple_ (thn (ha _ pins s σ H _ I h) fun us s1 ⟨vs,H1,I1,r1,q1⟩=>?_))
 obtain ⟨v,w,e1,q1⟩:=q1
 subst e1
 obtain ⟨u1,u2,rfl,rv,rw'⟩ : ∃ u1 u2,us = [u1,u2]∧RelV v u1∧RelV w u2:=by
  cases r1 with
  | cons p q =>
   cases q with
   | cons p' q' =>
    cases q'
    exact ⟨_,_,rfl,p,p'⟩
 refine wpAny_newObj_type ?_ (by show 2 ≤ sizeLine; decide)
 have I2 : Inv X pins σ H1 { s1 with heap:=s1.heap.push { cls:=.type "tuple",data:=.seq [u1,u2].toArray } }:=I1.kept (t':=s1.toks) fun b o e=>Heap.get?_push_of_some _ e
 rw [hw]
 refine wpAny_bind (wpAny_pure ?_)
 show wpAny (model X.prog X.w) X.A (do rule "assign.swapped-stores"; let items ← unpackItems (.ref s1.heap.objs.size) 2 none; assignInOrder [fun v=>bindName X.env y v,fun v=>bindName X.env x v] items.reverse; pure Flow.next) _ _ _
 refine wpAny_bind (wpAny_rule (wpAny_bind (unpackItems_tuple (items:=#[u1,u2]) (I.ok.hd hc) (IsTup.new s1.heap _) fun h' hx'=>?_)))
 have I3:=I2.kept (h':=h') (t':=s1.toks) fun b o e=>hx' b o (Nat.ne_of_lt (Heap.lt_size e)) e
 show wpAny _ _ (assignInOrder [fun v=>bindName X.env y v,fun v=>bindName X.env x v] [u2,u1] >>= fun _=>pure Flow.next) _ _ _
 refine wpAny_bind (assignInOrder_cons (wpAny_bindName (hJ I3 hN hj (.inl hy) rw' (fun s2 I4=>?_) (.inr hy))))
 refine assignInOrder_cons (wpAny_bindName (hJ I4 hN hi (.inl hx) rv (fun s3 I5=>assignInOrder_nil (wpAny_pure ?_)) (.inr hx)))
 rw [List.set_comm _ _ (Ne.symm hij)] at I5
 exact ⟨_,H1,I5,q1⟩
def tAug (i : Nat) (te : TE) (ti : TIp) : TS:=fun D σ H=>∃ x,σ[i]? = some (some x)∧te σ H fun y H1=>ti x y H1 fun z H2=>D.nx (σ.set i (some z)) H2
theorem aDA {i : Nat} {x : Str} {e : Expr} {te : TE} {op : Operator} {ti : TIp} {pos' : Pos} (hN : X.N.Nodup) (hi : X.N[i]? = some x) (hx : Loc X.env.scope x) (he : PE X e te) (ho : PIp X op ti) (hf : X.fn x = true∨X.env.scope.names.lookup x = some .local:=by first | exact .inl rfl | exact .inr rfl | assumption) :
  PS X (.AugAssign (.Name x pos') op e pos) (tAug i te ti):=by
 intro pins s σ H D I h
 obtain ⟨v,e1,h⟩:=h
 obtain ⟨m,hn,hl⟩:=I.loc
 have vis : Vis X.env.scope x:=by rcases hx with k | k; exact .inl k; exact .inr (.inl k)
 obtain ⟨u,r,l⟩:=hl i x v hi e1 vis
 refine wpAny_AugAssign_Name ?_
 have go : wpAny (model X.prog X.w) X.A (eval e X.env) (fun w s₂=>wpAny (model X.prog X.w) X.A (inplaceOp op u w) (fun r s₃=>wpAny (model X.prog X.w) X.A (storeName X.env x r) (fun _=>SP X pins D .next) X.xe s₃) X.xe s₂) X.xe s:=by
  refine thn (he pins s σ H _ I h) fun w s1 ⟨y,H1,I1,r1,q1⟩=>?_
  refine thn (ho pins s1 σ H1 v y u w _ I1 r r1 q1) fun z s2 ⟨zv,H2,I2,r2,q2⟩=>?_
  exact hJ I2 hN hi hx r2 (fun s3 I3=>⟨_,H2,I3,q2⟩) hf
 rcases l with ⟨hk,hm⟩ | ⟨hk,c,hc,hcell⟩
 ·exact wpAny_loadName_local I.ok.kind hk hn hm go
 ·rcases hk with hk | hk
  ·exact wpAny_loadName_cell I.ok.kind hk hc hcell go
  ·rcases hx with k | k
   ·have : X.env.scope.names.lookup x = some .free:=hk
    rw [k] at this; cases this
   ·have : X.env.scope.names.lookup x = some .free:=hk
    rw [k] at this; cases this
def ipI (f : Int→Int→Int) : TIp:=fun x y H Q=>∃ i j,x = .int i∧y = .int j∧Q (.int (f i j)) H
theorem aDB : PIp X .Add (ipI fun i j=>i + j):=by
 intro pins s σ H x y v u Q I r1 r2 h
 obtain ⟨i,j,e1,e2,q⟩:=h
 subst e1; subst e2
 obtain ⟨t,rfl⟩:=r1
 obtain ⟨t',rfl⟩:=r2
 exact iadd_int ⟨.int _,H,I.tok _,⟨_,rfl⟩,q⟩
end
section
variable {X : Cx} {pos : Pos}
def zM (c : TT) (tb : TS) : TS:=fun D σ H=>∃ W : Nat→St→Hp→Prop,(∃ m,W m σ H)∧∀ m σ H,W m σ H →
 c σ H fun b H1=>if b = true then ∃ N : St→Hp→Prop,(∀ σ' H',N σ' H'→∃ m',m' < m∧W m' σ' H')∧tb { D with nx:=N,ct:=N,bk:=D.nx } σ H1 else D.nx σ H1
theorem aBf {c : Expr} {body : List Stmt} {tc : TT} {tb : TS} (hp : PassesOwn (model X.prog X.w) X.A X.env X.xe) (hc : PT X c tc) (hb : PSs X body tb) : PS X (.While c body [] pos) (zM tc tb):=by
 intro pins s σ H D I h
 obtain ⟨W,⟨m0,w0⟩,turn⟩:=h
 refine wpAny_While (codeAny_whileLoop (fun n s'=>∃ σ' H',Inv X pins σ' H' s'∧W n σ' H') ?_ m0 ⟨σ,H,I,w0⟩)
 rintro n s1 ⟨σ1,H1,I1,w1⟩
 refine wpAny_passesOwn hp (thn (hc pins s1 σ1 H1 _ I1 (turn n σ1 H1 w1)) fun b s2 ⟨H2,I2,q2⟩=>?_)
 cases b with
 | true =>
  obtain ⟨N,hN,q2⟩:=q2
  rw [if_pos rfl]
  refine wpAny_passesOwn hp (thn (hb pins s2 σ1 H2 _ I2 q2) fun f s3 q3=>?_)
  cases f with
  | next =>
   obtain ⟨σ3,H3,I3,n3⟩:=q3
   obtain ⟨m',hm,w3⟩:=hN σ3 H3 n3
   exact ⟨m',hm,σ3,H3,I3,w3⟩
  | cont =>
   obtain ⟨σ3,H3,I3,n3⟩:=q3
   obtain ⟨m',hm,w3⟩:=hN σ3 H3 n3
   exact ⟨m',hm,σ3,H3,I3,w3⟩
  | brk=>exact q3
  | ret v=>exact q3
 | false =>
  rw [if_neg Bool.false_ne_true]
  exact wpAny_execs_nil ⟨σ1,H2,I2,q2⟩
end
structure It where
 go : Nat→Hp→Prop
 yld : Nat→Hp→V→Hp→Prop
 stop : Nat→Hp→Prop
def FpOk (X : Cx) (pins : List (Addr × Obj)) (H : Hp) (b : Addr) : Prop :=
 H b = none∧b ≠ X.env.locals∧b ∉ X.fs∧(b∈X.ex∨X.s₀.heap.objs.size ≤ b)∧(∀ x c,X.env.cells.lookup x = some c→c ≠ b)∧∀ p∈X.pn ++ pins,p.1 ≠ b
theorem Inv.fpOk {X : Cx} {pins : List (Addr × Obj)} {σ : St} {H H' : Hp} {s : Shared} {b : Addr} (I : Inv X pins σ H s) (hb : s.heap.objs.size ≤ b) (hn : H' b = none) : FpOk X pins H' b:=by
 refine ⟨hn,Nat.ne_of_gt (Nat.lt_of_lt_of_le I.lt hb),I.nofs hb,.inr (Nat.le_trans I.sz hb),fun x c e z=>?_,fun p hp z=>?_⟩
 ·obtain ⟨v,q⟩:=I.cell x c e
  exact absurd (Nat.lt_of_lt_of_le q.lt (by rw [z]; exact hb)) (Nat.lt_irrefl _)
 ·exact absurd (Nat.lt_of_lt_of_le (Heap.lt_size (I.pin p hp).1) (by rw [z]; exact hb)) (Nat.lt_irrefl _)
structure Turn (P : Program) (w : World) (K : PySem.W.Frag) (tg : Expr) (J : It) (fp : List Addr) (it : Addr) (tn : Nat→Heap→Prop) : Prop where
 mem : it∈fp
 obj : ∀ i h,tn i h→∀ b∈fp,∃ o,h.get? b = some o∧∀ v,o.data ≠ .cell v
 keep : ∀ i h h',tn i h→(∀ b∈fp,∀ o,h.get? b = some o→h'.get? b = some o)→tn i h'
 item : ∀ (X : Cx),X.prog = P→X.w = w→X.K = K→X.calm = true→∀ (i : Nat) (pins : List (Addr × Obj)) (s : Shared) (σ : St) (H : Hp) (E : Value→Shared→Prop),Inv X pins σ H s→(∀ b∈fp,FpOk X pins H b)→tn i s.heap→J.go i H →
  wpAny (model P w) X.A (pyNext (.ref it)) (fun r s1=>∃ u,r = some u ∧
   wpAny (model P w) X.A (letOwnedTupleGo tg (.ref it) u) (fun _ s2=>∃ x H',Inv X pins σ H' s2∧RelV x u∧J.yld i H x H'∧tn (i + 1) s2.heap∧∀ b∈fp,H' b = none) E s1) E s
 done : ∀ (X : Cx),X.prog = P→X.w = w→X.K = K→X.calm = true→∀ (i : Nat) (pins : List (Addr × Obj)) (s : Shared) (σ : St) (H : Hp) (E : Value→Shared→Prop),Inv X pins σ H s→(∀ b∈fp,FpOk X pins H b)→tn i s.heap→J.stop i H →
  wpAny (model P w) X.A (pyNext (.ref it)) (fun r s1=>r = none∧Inv X pins σ H s1) E s
 self : ∀ (A : Around) (i : Nat) (s : Shared) (Q : Value→Shared→Prop) (E : Value→Shared→Prop),tn i s.heap→Q (.ref it) s→wpAny (model P w) A (pyIter (.ref it)) Q E s
abbrev TI:=St→Hp→(It→Hp→Prop)→Prop
def PIE (X : Cx) (pins : List (Addr × Obj)) (σ : St) (tg : Expr) (R : It→Hp→Prop) (itv : Value) (s2 : Shared) : Prop :=
 ∃ (it : Addr) (fp : List Addr) (tn : Nat→Heap→Prop) (J : It) (H' : Hp),itv = .ref it∧Inv X pins σ H' s2∧Turn X.prog X.w X.K tg J fp it tn∧tn 0 s2.heap∧(∀ b∈fp,FpOk X pins H' b)∧R J H'
def PI (X : Cx) (tg iter : Expr) (wi : TI) : Prop :=
 ∀ (pins : List (Addr × Obj)) (s : Shared) (σ : St) (H : Hp) (R : It→Hp→Prop),Inv X pins σ H s→wi σ H R →
  wpAny (model X.prog X.w) X.A (eval iter X.env) (fun v s1=>wpAny (model X.prog X.w) X.A (pyIter v) (PIE X pins σ tg R) X.xe s1) X.xe s
theorem xC {M : Model} {A : Around} {E : Value → Shared → Prop} {s : Shared} {tg : Expr} {it : Addr} {u : Value} {o : Obj} {n : String} {vs : Array Value} {Q : Unit → Shared → Prop} (ho : s.heap.get? it = some o) (hc : o.cls = .type n) (hd : o.data = .fields vs)
    (hn : ["enumerate", "zip", "dict_itemiterator", "dict_reverseitemiterator", "odict_iterator", "itertools.zip_longest", "itertools.pairwise"].contains n = false) (hQ : Q () s) : wpAny M A (letOwnedTupleGo tg (.ref it) u) Q E s := by
  unfold letOwnedTupleGo
  cases tg <;> first
    | exact wpAny_pure hQ
    | (cases u <;> first
        | exact wpAny_pure hQ
        | (refine wpAny_bind (wpAny_load ho ?_)
           rw [hc, hd]
           show wpAny M A (if (["enumerate", "zip", "dict_itemiterator", "dict_reverseitemiterator", "odict_iterator", "itertools.zip_longest", "itertools.pairwise"].contains n && vs[0]? == some (rawInt _)) = true then _ else _) Q E s
           rw [if_neg (by intro h; rw [hn, Bool.false_and] at h; cases h)]
           exact wpAny_pure hQ))
def Itl (K : PySem.W.Frag) (a : Addr) : It :=
 ⟨fun i H=>∃ xs x,SqL K H a xs∧xs[i]? = some x,fun i H x H'=>H' = H∧∀ xs,SqL K H a xs→xs[i]? = some x,fun i H=>∃ xs,SqL K H a xs∧xs.length ≤ i⟩
def Itt (K : PySem.W.Frag) (a : Addr) : It :=
 ⟨fun i H=>∃ xs x,SqT K H a xs∧xs[i]? = some x,fun i H x H'=>H' = H∧∀ xs,SqT K H a xs→xs[i]? = some x,fun i H=>∃ xs,SqT K H a xs∧xs.length ≤ i⟩
def Itr (lo : Int) (n : Nat) : It:=⟨fun i _=>i < n,fun i H x H'=>H' = H∧x = .int (lo + i),fun i _=>n ≤ i⟩
theorem zN {P : Program} {w : World} {K : PySem.W.Frag} {tg : Expr} (a it : Addr) : Turn P w K tg (Itl K a) [it] it (fun i h=>h.IsListIter it a i) where
 mem:=by simp
 obj:=fun i h st b hb=>by
  have e : b = it:=by simpa using hb
  subst e
  obtain ⟨o,e,c,d⟩:=st
  exact ⟨o,e,fun v z=>by rw [d] at z; cases z⟩
 keep:=fun i h h' st k=>st.at fun o e=>k it (by simp) o e
 item:=by
  intro X hP hw hK hc i pins s σ H E I hf st hg
  subst hP hw hK
  obtain ⟨xs,x,hq,hx⟩:=hg
  obtain ⟨its,rv,p,hz⟩:=I.list hq
  obtain ⟨u,hu,ru⟩:=rv.get hx
  obtain ⟨f0,f1,f2,f3,f4,f5⟩:=hf it (by simp)
  refine wpAny_pyNext_list_item st p.isList (x:=u) (by simpa using hu) fun h' st' sb=>?_
  have I1 : Inv X pins σ H { s with heap:=h' }:=I.turned (t':=s.toks) (fun b o hb e=>(sb.2 b hb).trans e) f0 f1 f3 f4 f5
  obtain ⟨o,e,c,d⟩:=id st'
  exact ⟨u,rfl,xC (s:={ s with heap:=h' }) e c d (by decide) ⟨x,H,I1,ru,⟨rfl,fun ys hy=>by rw [I.list_inj hy hq]; exact hx⟩,st',fun b hb=>(hf b hb).1⟩⟩
 done:=by
  intro X hP hw hK hc i pins s σ H E I hf st hg
  subst hP hw hK
  obtain ⟨xs,hq,hx⟩:=hg
  obtain ⟨its,rv,p,hz⟩:=I.list hq
  obtain ⟨f0,f1,f2,f3,f4,f5⟩:=hf it (by simp)
  have hl:=rv.length
  exact wpAny_pyNext_list_end (I.ok.hd hc) st p.isList (by simp; lia) fun h' eb=>⟨rfl,I.turned (t':=s.toks) (fun b o hb e=>eb b o hb e) f0 f1 f3 f4 f5⟩
 self:=fun _ _ _ _ _ st h=>wpAny_pyIter_listiter st h
theorem xD {P : Program} {w : World} {K : PySem.W.Frag} {tg : Expr} (a it : Addr) : Turn P w K tg (Itt K a) [it] it (fun i h=>h.IsTupleIter it a i) where
 mem:=by simp
 obj:=fun i h st b hb=>by
  have e : b = it:=by simpa using hb
  subst e
  obtain ⟨o,e,c,d⟩:=st
  exact ⟨o,e,fun v z=>by rw [d] at z; cases z⟩
 keep:=fun i h h' st k=>st.at fun o e=>k it (by simp) o e
 item:=by
  intro X hP hw hK hc i pins s σ H E I hf st hg
  subst hP hw hK
  obtain ⟨xs,x,hq,hx⟩:=hg
  obtain ⟨its,rv,p,hz⟩:=I.tuple hq
  obtain ⟨u,hu,ru⟩:=rv.get hx
  obtain ⟨f0,f1,f2,f3,f4,f5⟩:=hf it (by simp)
  refine wpAny_pyNext_tuple_item st (show s.heap.IsTuple a its.toArray from p) (x:=u) (by simpa using hu) fun h' st' sb=>?_
  have I1 : Inv X pins σ H { s with heap:=h' }:=I.turned (t':=s.toks) (fun b o hb e=>(sb.2 b hb).trans e) f0 f1 f3 f4 f5
  obtain ⟨o,e,c,d⟩:=id st'
  exact ⟨u,rfl,xC (s:={ s with heap:=h' }) e c d (by decide) ⟨x,H,I1,ru,⟨rfl,fun ys hy=>by rw [I.tuple_inj hy hq]; exact hx⟩,st',fun b hb=>(hf b hb).1⟩⟩
 done:=by
  intro X hP hw hK hc i pins s σ H E I hf st hg
  subst hP hw hK
  obtain ⟨xs,hq,hx⟩:=hg
  obtain ⟨its,rv,p,hz⟩:=I.tuple hq
  obtain ⟨f0,f1,f2,f3,f4,f5⟩:=hf it (by simp)
  have hl:=rv.length
  exact wpAny_pyNext_tuple_end (I.ok.hd hc) st (show s.heap.IsTuple a its.toArray from p) (by simp; lia) fun h' eb=>⟨rfl,I.turned (t':=s.toks) (fun b o hb e=>eb b o hb e) f0 f1 f3 f4 f5⟩
 self:=fun _ _ _ _ _ st h=>wpAny_pyIter_tupleiter st h
theorem xE {P : Program} {w : World} {K : PySem.W.Frag} {tg : Expr} (it : Addr) (lo : Int) (n : Nat) : Turn P w K tg (Itr lo n) [it] it (fun i h=>IsRangeIter h it (lo + (i : Nat) * 1) ((n : Int) - (i : Nat)) 1) where
 mem:=by simp
 obj:=fun i h st b hb=>by
  have e : b = it:=by simpa using hb
  subst e
  exact ⟨_,st,fun v z=>by
   have z' : Data.fields _ = Data.cell v:=z
   cases z'⟩
 keep:=fun i h h' st k=>k it (by simp) _ st
 item:=by
  intro X hP hw hK hc i pins s σ H E I hf st hg
  subst hP hw hK
  obtain ⟨f0,f1,f2,f3,f4,f5⟩:=hf it (by simp)
  have W:=Walks.range (prog:=X.prog) (w:=X.w) (I.ok.hd hc) it lo 1 n
  refine W.item i s _ _ hg st fun v h' tk hv st' kk=>?_
  obtain ⟨t,rfl⟩:=hv
  have I1 : Inv X pins σ H { s with heap:=h',toks:=tk }:=I.turned (fun b o hb e=>kk b o (by simpa using hb) e) f0 f1 f3 f4 f5
  refine ⟨_,rfl,xC (s:={ s with heap:=h',toks:=tk }) (n := "range_iterator") st' rfl rfl (by decide) ⟨.int (lo + i),H,I1,⟨t,?_⟩,⟨rfl,rfl⟩,st',fun b hb=>(hf b hb).1⟩⟩
  rw [Int.mul_one]
 done:=by
  intro X hP hw hK hc i pins s σ H E I hf st hg
  subst hP hw hK
  obtain ⟨f0,f1,f2,f3,f4,f5⟩:=hf it (by simp)
  exact wpAny_pyNext_range_end (I.ok.hd hc) st (by have : n ≤ i:=hg; lia) fun h' eb=>⟨rfl,I.turned (t':=s.toks) (fun b o hb e=>eb b o hb e) f0 f1 f3 f4 f5⟩
 self:=fun _ _ _ _ _ st h=>wpAny_pyIter_rangeiter st h
end L2
namespace L2
open PySem PySem.Spec PyProof.Rows
section
variable {X : Cx} {tg : Expr}
def aB4 (K : PySem.W.Frag) (tl : TE) : TI:=fun σ H R=>tl σ H fun x H1=>∃ a,x = .ref a∧(∃ xs,SqL K H1 a xs)∧R (Itl K a) H1
def iTup (K : PySem.W.Frag) (tl : TE) : TI:=fun σ H R=>tl σ H fun x H1=>∃ a,x = .ref a∧(∃ xs,SqT K H1 a xs)∧R (Itt K a) H1
theorem cC {l : Expr} {tl : TE} (hl : PE X l tl) : PI X tg l (aB4 X.K tl):=by
 intro pins s σ H R I h
 refine thn (hl pins s σ H _ I h) fun v s1 ⟨x,H1,I1,r1,q1⟩=>?_
 obtain ⟨a,e,⟨xs,hq⟩,q⟩:=q1
 subst e
 cases r1
 obtain ⟨its,rv,p,hz⟩:=I1.list hq
 refine wpAny_pyIter_list p.isList ?_
 refine ⟨s1.heap.objs.size,[s1.heap.objs.size],_,_,H1,rfl,I1.kept (t':=s1.toks) fun b o e=>Heap.get?_push_of_some _ e,zN a _,⟨_,Heap.get?_push_size _ rfl,rfl,rfl⟩,fun b hb=>?_,q⟩
 have e : b = s1.heap.objs.size:=by simpa using hb
 subst e
 exact I1.fpOk (Nat.le_refl _) (I1.hok.fresh (Nat.le_refl _))
theorem nE {l : Expr} {tl : TE} (hl : PE X l tl) : PI X tg l (iTup X.K tl):=by
 intro pins s σ H R I h
 refine thn (hl pins s σ H _ I h) fun v s1 ⟨x,H1,I1,r1,q1⟩=>?_
 obtain ⟨a,e,⟨xs,hq⟩,q⟩:=q1
 subst e
 cases r1
 obtain ⟨its,rv,p,hz⟩:=I1.tuple hq
 refine wpAny_pyIter_tuple (show s1.heap.IsTuple a its.toArray from p) ?_
 refine ⟨s1.heap.objs.size,[s1.heap.objs.size],_,_,H1,rfl,I1.kept (t':=s1.toks) fun b o e=>Heap.get?_push_of_some _ e,xD a _,⟨_,Heap.get?_push_size _ rfl,rfl,rfl⟩,fun b hb=>?_,q⟩
 have e : b = s1.heap.objs.size:=by simpa using hb
 subst e
 exact I1.fpOk (Nat.le_refl _) (I1.hok.fresh (Nat.le_refl _))
theorem rX {pins : List (Addr × Obj)} {σ : St} {H : Hp} {s : Shared} {R : It→Hp→Prop} {E : Value→Shared→Prop} {lo hi : Int} {t u v : Tok} {tk : Nat} (I : Inv X pins σ H s) (h1 : -(2 ^ 62) ≤ lo) (h2 : lo < 2 ^ 62) (h3 : -(2 ^ 62) ≤ hi) (h4 : hi < 2 ^ 62)
  (q : R (Itr lo (hi - lo).toNat) H) : wpAny (model X.prog X.w) X.A (pyIter (.ref s.heap.objs.size)) (PIE X pins σ tg R) E { s with heap:=s.heap.push { cls:=.type "range",data:=.fields #[.int lo t,.int hi u,.int 1 v] },toks:=tk }:=by
 refine wpAny_pyIter_range (IsRange.new ..) (small_one h1 h2 h3 h4) ?_
 have I1 : Inv X pins σ H { s with heap:=s.heap.push { cls:=.type "range",data:=.fields #[.int lo t,.int hi u,.int 1 v] },toks:=tk }:=I.kept fun b o e=>Heap.get?_push_of_some _ e
 refine ⟨(s.heap.push { cls:=.type "range",data:=.fields #[.int lo t,.int hi u,.int 1 v] }).objs.size,[(s.heap.push { cls:=.type "range",data:=.fields #[.int lo t,.int hi u,.int 1 v] }).objs.size],_,_,H,rfl,
  I1.kept (t':=tk) fun b o e=>Heap.get?_push_of_some _ e,xE _ lo (hi - lo).toNat,?_,fun b hb=>?_,q⟩
 ·have e1 : lo + ((0 : Nat) : Int) * 1 = lo:=by simp
  have e2 : (((hi - lo).toNat : Nat) : Int) - ((0 : Nat) : Int) = Builtin.Range.rangeSize lo hi 1:=by rw [rangeSize_one]; split <;> lia
  show IsRangeIter _ _ (lo + ((0 : Nat) : Int) * 1) ((((hi - lo).toNat : Nat) : Int) - ((0 : Nat) : Int)) 1
  rw [e1,e2]
  exact Heap.get?_push_size _ rfl
 ·have e : b = (s.heap.push { cls:=.type "range",data:=.fields #[.int lo t,.int hi u,.int 1 v] }).objs.size:=by simpa using hb
  subst e
  exact I1.fpOk (Nat.le_refl _) (I1.hok.fresh (Nat.le_refl _))
def aEl (ta : TA) : TI:=fun σ H R=>ta σ H fun vs H1=>∃ j : Int,vs = [.int j]∧-(2 ^ 62) ≤ j∧j < 2 ^ 62∧R (Itr 0 j.toNat) H1
def aEm (ta : TA) : TI:=fun σ H R=>ta σ H fun vs H1=>∃ i j : Int,vs = [.int i,.int j]∧(-(2 ^ 62) ≤ i∧i < 2 ^ 62∧-(2 ^ 62) ≤ j∧j < 2 ^ 62)∧R (Itr i (j - i).toNat) H1
theorem bH {a : Expr} {ta : TA} {p pos : Pos} (hg : Gl X "range") (hm : X.mg "range" = none) (ha : PA X [a] ta) (hs : starEach [a] X.env = [(false,eval a X.env)]:=by rfl) : PI X tg (.Call (.Name "range" p) [a] [] pos) (aEl ta):=by
 intro pins s σ H R I h
 refine Call_ (iS I hg hm boot_range (PyProof.Rows.callWith_type1 (thn (ha pos pins s σ H _ I h) fun us s1 ⟨vs,H1,I1,r1,q1⟩=>?_) hs rfl))
 obtain ⟨j,e,q1,q2,q⟩:=q1
 subst e
 cases r1 with
 | cons r rr =>
  cases rr
  obtain ⟨t,rfl⟩:=r
  exact call_range_1 (rX I1 (by lia) (by lia) q1 q2 (by simpa using q))
theorem jX {a b : Expr} {ta : TA} {p pos : Pos} (hg : Gl X "range") (hm : X.mg "range" = none) (ha : PA X [a,b] ta) (hs : starEach [a,b] X.env = [(false,eval a X.env),(false,eval b X.env)]:=by rfl) (hs2 : starEach [b] X.env = [(false,eval b X.env)]:=by rfl) :
  PI X tg (.Call (.Name "range" p) [a,b] [] pos) (aEm ta):=by
 intro pins s σ H R I h
 refine Call_ (iS I hg hm boot_range (PyProof.Rows.callWith_type1 (thn (ha pos pins s σ H _ I h) fun us s1 ⟨vs,H1,I1,r1,q1⟩=>?_) (by rw [hs,hs2]) (by rw [hs2]; rfl)))
 obtain ⟨i,j,e,⟨q1,q2,q3,q4⟩,q⟩:=q1
 subst e
 cases r1 with
 | cons r rr =>
  cases rr with
  | cons r' rr =>
   cases rr
   obtain ⟨t,rfl⟩:=r
   obtain ⟨t',rfl⟩:=r'
   exact call_range_2 (rX I1 q1 q2 q3 q4 q)
def tFor (wi : TI) (g : TG) (tb : TS) : TS:=fun D σ H=>wi σ H fun J H1=>∃ W : Nat→Nat→St→Hp→Prop,(∃ m,W 0 m σ H1)∧∀ i m σ H,W i m σ H →
 (J.stop i H∧D.nx σ H)∨(J.go i H∧∃ N : St→Hp→Prop,(∀ σ' H',N σ' H'→∃ m',m' < m∧W (i + 1) m' σ' H')∧∀ x H',J.yld i H x H'→g x σ H' fun σ2 H2=>tb { D with nx:=N,ct:=N,bk:=D.nx } σ2 H2)
def jY (fp : List Addr) (h : Heap) : List (Addr × Obj):=fp.filterMap fun b=>(h.get? b).map fun o=>(b,o)
theorem gC {fp : List Addr} {h : Heap} {b : Addr} {o : Obj} (hb : b∈fp) (e : h.get? b = some o) : (b,o)∈jY fp h:=List.mem_filterMap.mpr ⟨b,hb,by rw [e]; rfl⟩
theorem zO {fp : List Addr} {h : Heap} {p : Addr × Obj} (hp : p∈jY fp h) : p.1∈fp∧h.get? p.1 = some p.2:=by
 obtain ⟨b,hb,e⟩:=List.mem_filterMap.mp hp
 cases q : h.get? b with
 | none=>rw [q] at e; cases e
 | some o =>
  rw [q] at e
  have e' : (b,o) = p:=Option.some.inj e
  subst e'
  exact ⟨hb,q⟩
theorem Inv.pinned {pins : List (Addr × Obj)} {σ : St} {H : Hp} {s : Shared} {fp : List Addr} (I : Inv X pins σ H s) (hf : ∀ b∈fp,FpOk X pins H b) (ho : ∀ b∈fp,∃ o,s.heap.get? b = some o∧∀ v,o.data ≠ .cell v) : Inv X (pins ++ jY fp s.heap) σ H s :=
 I.pins_of fun p hp=>(List.mem_append.mp hp).elim (fun z=>I.pin p (List.mem_append_right _ z)) fun z=>by
  obtain ⟨hb,e⟩:=zO z
  obtain ⟨f0,f1,f2,_⟩:=hf p.1 hb
  obtain ⟨o,e',d⟩:=ho p.1 hb
  rw [e] at e'; cases e'
  exact ⟨e,f0,f1,f2,d⟩
theorem Inv.unpinned {pins pl : List (Addr × Obj)} {σ : St} {H : Hp} {s : Shared} (I : Inv X (pins ++ pl) σ H s) : Inv X pins σ H s:=I.pins_of fun p hp=>I.pin p (List.mem_append_right _ (List.mem_append_left _ hp))
theorem cA {iter : Expr} {body : List Stmt} {wi : TI} {g : TG} {tb : TS} {pos : Pos} (hp : PassesOwn (model X.prog X.w) X.A X.env X.xe) (hc : X.calm = true) (hi : PI X tg iter wi) (hg : PG X tg g) (hb : PSs X body tb)
  (hs : ∀ x,foldedSetIterable iter X.env x = pure x:=by intro _; rfl) : PS X (.For tg iter body [] pos) (tFor wi g tb):=by
 intro pins s σ H D I h
 refine wpAny_For (thn (hi pins s σ H _ I h) fun v s1 h1=>thn h1 fun itv s2 h2=>?_) hs
 obtain ⟨it,fp,tn,J,H2,e,I2,T,st2,f2,W,⟨m0,w0⟩,turn⟩:=h2
 subst e
 have stat : ∀ {H' : Hp},(∀ b∈fp,H' b = none)→∀ b∈fp,FpOk X pins H' b:=fun hn b hb=>⟨hn b hb,(f2 b hb).2⟩
 refine codeAny_forLoop_any (fun n s'=>∃ i σ' H',Inv X pins σ' H' s'∧tn i s'.heap∧(∀ b∈fp,H' b = none)∧W i n σ' H') ?_ m0 ⟨0,σ,H2,I2,st2,fun b hb=>(f2 b hb).1,w0⟩
 rintro n s3 ⟨i,σ3,H3,I3,st3,fr3,w3⟩
 rcases turn i n σ3 H3 w3 with ⟨stop,qn⟩ | ⟨go,N,hN,step⟩
 ·refine wpAny_passesOwn hp (thn (T.done X rfl rfl rfl hc i pins s3 σ3 H3 X.xe I3 (stat fr3) st3 stop) fun r s4 ⟨hr,I4⟩=>?_)
  subst hr
  exact wpAny_execs_nil ⟨σ3,H3,I4,qn⟩
 ·refine wpAny_passesOwn hp (thn (T.item X rfl rfl rfl hc i pins s3 σ3 H3 X.xe I3 (stat fr3) st3 go) fun r s4 ⟨u,hr,h4⟩=>?_)
  subst hr
  refine wpAny_passesOwn hp (thn h4 fun _ s5 ⟨x,H5,I5,r5,y5,st5,fr5⟩=>?_)
  have I5':=I5.pinned (stat fr5) (T.obj _ _ st5)
  refine wpAny_passesOwn hp (thn (hg _ s5 σ3 H5 x u _ I5' r5 (step x H5 y5)) fun _ s6 ⟨σ6,H6,I6,q6⟩=>?_)
  refine wpAny_passesOwn hp (thn (hb _ s6 σ6 H6 _ I6 q6) fun f s7 q7=>?_)
  have again : ∀ {σ7 : St} {H7 : Hp},Inv X (pins ++ jY fp s5.heap) σ7 H7 s7→N σ7 H7→∃ m,m < n∧∃ i σ' H',Inv X pins σ' H' s7∧tn i s7.heap∧(∀ b∈fp,H' b = none)∧W i m σ' H':=fun {σ7 H7} I7 n7=>by
   obtain ⟨m',hm,w7⟩:=hN σ7 H7 n7
   refine ⟨m',hm,i + 1,σ7,H7,I7.unpinned,T.keep _ _ _ st5 fun b hb o e=>(I7.pin (b,o) (List.mem_append_right _ (List.mem_append_right _ (gC hb e)))).1,fun b hb=>?_,w7⟩
   obtain ⟨o,e,d⟩:=T.obj _ _ st5 b hb
   exact (I7.pin (b,o) (List.mem_append_right _ (List.mem_append_right _ (gC hb e)))).2.1
  cases f with
  | next=>obtain ⟨σ7,H7,I7,n7⟩:=q7; exact again I7 n7
  | cont=>obtain ⟨σ7,H7,I7,n7⟩:=q7; exact again I7 n7
  | brk=>obtain ⟨σ7,H7,I7,q7⟩:=q7; exact ⟨σ7,H7,I7.unpinned,q7⟩
  | ret v=>obtain ⟨x7,σ7,H7,I7,r7,q7⟩:=q7; exact ⟨x7,σ7,H7,I7.unpinned,r7,q7⟩
end
theorem jH {K : PySem.W.Frag} {a : Addr} {xs : List V} {g : TG} {tb : TS} {D : Ends} {σ : St} {H : Hp} (Pv : Nat→St→Hp→Prop) (h0 : Pv 0 σ H) (hl : ∀ i σ H,i ≤ xs.length→Pv i σ H→SqL K H a xs)
  (hs : ∀ i x σ H,xs[i]? = some x→Pv i σ H→g x σ H fun σ2 H2=>tb { D with nx:=Pv (i + 1),ct:=Pv (i + 1),bk:=D.nx } σ2 H2) (hd : ∀ σ H,Pv xs.length σ H→D.nx σ H) :
  ∃ W : Nat→Nat→St→Hp→Prop,(∃ m,W 0 m σ H)∧∀ i m σ H,W i m σ H →
   ((Itl K a).stop i H∧D.nx σ H)∨((Itl K a).go i H∧∃ N : St→Hp→Prop,(∀ σ' H',N σ' H'→∃ m',m' < m∧W (i + 1) m' σ' H')∧∀ x H',(Itl K a).yld i H x H'→g x σ H' fun σ2 H2=>tb { D with nx:=N,ct:=N,bk:=D.nx } σ2 H2):=by
 refine ⟨fun i m σ H=>m = xs.length - i∧i ≤ xs.length∧Pv i σ H,⟨xs.length,by simp,Nat.zero_le _,h0⟩,?_⟩
 rintro i m σ H ⟨rfl,hi,p⟩
 have q:=hl i σ H hi p
 by_cases hlt : i < xs.length
 ·refine .inr ⟨⟨xs,xs[i],q,by simp [hlt]⟩,Pv (i + 1),fun σ' H' p'=>⟨xs.length - (i + 1),by lia,rfl,hlt,p'⟩,fun x H' y=>?_⟩
  obtain ⟨e,y⟩:=y
  subst e
  exact hs i x σ _ (y xs q) p
 ·have e : i = xs.length:=by lia
  subst e
  exact .inl ⟨⟨xs,q,Nat.le_refl _⟩,hd σ H p⟩
theorem oZ {K : PySem.W.Frag} {a : Addr} {xs : List V} {g : TG} {tb : TS} {D : Ends} {σ : St} {H : Hp} (Pv : Nat→St→Hp→Prop) (h0 : Pv 0 σ H) (hl : ∀ i σ H,i ≤ xs.length→Pv i σ H→SqT K H a xs)
  (hs : ∀ i x σ H,xs[i]? = some x→Pv i σ H→g x σ H fun σ2 H2=>tb { D with nx:=Pv (i + 1),ct:=Pv (i + 1),bk:=D.nx } σ2 H2) (hd : ∀ σ H,Pv xs.length σ H→D.nx σ H) :
  ∃ W : Nat→Nat→St→Hp→Prop,(∃ m,W 0 m σ H)∧∀ i m σ H,W i m σ H →
   ((Itt K a).stop i H∧D.nx σ H)∨((Itt K a).go i H∧∃ N : St→Hp→Prop,(∀ σ' H',N σ' H'→∃ m',m' < m∧W (i + 1) m' σ' H')∧∀ x H',(Itt K a).yld i H x H'→g x σ H' fun σ2 H2=>tb { D with nx:=N,ct:=N,bk:=D.nx } σ2 H2):=by
 refine ⟨fun i m σ H=>m = xs.length - i∧i ≤ xs.length∧Pv i σ H,⟨xs.length,by simp,Nat.zero_le _,h0⟩,?_⟩
 rintro i m σ H ⟨rfl,hi,p⟩
 have q:=hl i σ H hi p
 by_cases hlt : i < xs.length
 ·refine .inr ⟨⟨xs,xs[i],q,by simp [hlt]⟩,Pv (i + 1),fun σ' H' p'=>⟨xs.length - (i + 1),by lia,rfl,hlt,p'⟩,fun x H' y=>?_⟩
  obtain ⟨e,y⟩:=y
  subst e
  exact hs i x σ _ (y xs q) p
 ·have e : i = xs.length:=by lia
  subst e
  exact .inl ⟨⟨xs,q,Nat.le_refl _⟩,hd σ H p⟩
theorem bY {lo : Int} {n : Nat} {g : TG} {tb : TS} {D : Ends} {σ : St} {H : Hp} (Pv : Nat→St→Hp→Prop) (h0 : Pv 0 σ H)
  (hs : ∀ i σ H,i < n→Pv i σ H→g (.int (lo + i)) σ H fun σ2 H2=>tb { D with nx:=Pv (i + 1),ct:=Pv (i + 1),bk:=D.nx } σ2 H2) (hd : ∀ σ H,Pv n σ H→D.nx σ H) :
  ∃ W : Nat→Nat→St→Hp→Prop,(∃ m,W 0 m σ H)∧∀ i m σ H,W i m σ H →
   ((Itr lo n).stop i H∧D.nx σ H)∨((Itr lo n).go i H∧∃ N : St→Hp→Prop,(∀ σ' H',N σ' H'→∃ m',m' < m∧W (i + 1) m' σ' H')∧∀ x H',(Itr lo n).yld i H x H'→g x σ H' fun σ2 H2=>tb { D with nx:=N,ct:=N,bk:=D.nx } σ2 H2):=by
 refine ⟨fun i m σ H=>m = n - i∧i ≤ n∧Pv i σ H,⟨n,by simp,Nat.zero_le _,h0⟩,?_⟩
 rintro i m σ H ⟨rfl,hi,p⟩
 by_cases hlt : i < n
 ·refine .inr ⟨hlt,Pv (i + 1),fun σ' H' p'=>⟨n - (i + 1),by lia,rfl,hlt,p'⟩,fun x H' y=>?_⟩
  obtain ⟨e,y⟩:=y
  subst e y
  exact hs i σ _ hlt p
 ·have e : i = n:=by lia
  subst e
  exact .inl ⟨Nat.le_refl _,hd σ H p⟩
theorem aBg {c : TT} {tb : TS} {D : Ends} {σ : St} {H : Hp} (Pv : St→Hp→Prop) (μ : St→Hp→Nat) (h0 : Pv σ H)
  (hs : ∀ σ H,Pv σ H→c σ H fun b H1=>if b = true then tb { D with nx:=fun σ' H'=>Pv σ' H'∧μ σ' H' < μ σ H,ct:=fun σ' H'=>Pv σ' H'∧μ σ' H' < μ σ H,bk:=D.nx } σ H1 else D.nx σ H1)
  (mono : ∀ σ H Q Q',(∀ b H1,Q b H1→Q' b H1)→c σ H Q→c σ H Q') : zM c tb D σ H:=by
 refine ⟨fun m σ H=>m = μ σ H∧Pv σ H,⟨_,rfl,h0⟩,?_⟩
 rintro m σ H ⟨rfl,p⟩
 refine mono σ H _ _ (fun b H1 q=>?_) (hs σ H p)
 cases b with
 | true=>exact ⟨_,fun σ' H' ⟨p',l⟩=>⟨_,l,rfl,p'⟩,q⟩
 | false=>exact q
end L2
namespace L2
open PySem PySem.Spec PyProof.Rows
abbrev R2:=V→V→Hp→VK→Prop
def OpR (X : Cx) (f : Value→Value→Sem Value) (r : R2) : Prop :=
 ∀ (pins : List (Addr × Obj)) (s : Shared) (σ : St) (H : Hp) (x y : V) (v u : Value) (Q : VK),Inv X pins σ H s→RelV x v→RelV y u→r x y H Q →
  wpAny (model X.prog X.w) X.A (f v u) (EP X pins σ Q) X.xe s
def UnR (X : Cx) (f : Value→Sem Value) (r : V→Hp→VK→Prop) : Prop :=
 ∀ (pins : List (Addr × Obj)) (s : Shared) (σ : St) (H : Hp) (x : V) (v : Value) (Q : VK),Inv X pins σ H s→RelV x v→r x H Q →
  wpAny (model X.prog X.w) X.A (f v) (EP X pins σ Q) X.xe s
def cI (X : Cx) (f : Value) (r : List V→Hp→VK→Prop) : Prop :=
 ∀ (pins : List (Addr × Obj)) (s : Shared) (σ : St) (H : Hp) (xs : List V) (us : List Value) (Q : VK),Inv X pins σ H s→Vals xs us→r xs H Q →
  wpAny (model X.prog X.w) X.A (call f us) (EP X pins σ Q) X.xe s
def tOp (r : R2) (ta tb : TE) : TE:=fun σ H Q=>ta σ H fun x H1=>tb σ H1 fun y H2=>r x y H2 Q
def tUn (r : V→Hp→VK→Prop) (ta : TE) : TE:=fun σ H Q=>ta σ H fun x H1=>r x H1 Q
def rI (C : Int→Int→Prop) (g : Int→Int→V) : R2:=fun x y H Q=>∃ i j,x = .int i∧y = .int j∧C i j∧Q (g i j) H
def rI0 (g : Int→Int→V) : R2:=fun x y H Q=>∃ i j,x = .int i∧y = .int j∧Q (g i j) H
def rU (g : Int→V) : V→Hp→VK→Prop:=fun x H Q=>∃ i,x = .int i∧Q (g i) H
section
variable {X : Cx} {a b c : Expr} {ta tb tc : TE} {pos : Pos}
theorem binT (ha : PE X a ta) (hb : PE X b tb) {pins : List (Addr × Obj)} {s : Shared} {σ : St} {H : Hp} {R : V→V→Hp→Prop} (I : Inv X pins σ H s)
  (h : ta σ H fun x H1=>tb σ H1 fun y H2=>R x y H2) {Q : Value→Shared→Prop} {f : Value→Value→Sem Value}
  (hf : ∀ v u s2 x y H2,Inv X pins σ H2 s2→RelV x v→RelV y u→R x y H2→wpAny (model X.prog X.w) X.A (f v u) Q X.xe s2) :
  wpAny (model X.prog X.w) X.A (eval a X.env) (fun v s₁=>wpAny (model X.prog X.w) X.A (eval b X.env) (fun u s₂=>wpAny (model X.prog X.w) X.A (f v u) Q X.xe s₂) X.xe s₁) X.xe s:=by
 refine thn (ha pins s σ H _ I h) fun v s1 ⟨x,H1,I1,r1,q1⟩=>?_
 refine thn (hb pins s1 σ H1 _ I1 q1) fun u s2 ⟨y,H2,I2,r2,q2⟩=>?_
 exact hf v u s2 x y H2 I2 r1 r2 q2
theorem aY {op : Operator} {r : R2} (ho : OpR X (binaryOp op) r) (ha : PE X a ta) (hb : PE X b tb) : PE X (.BinOp a op b pos) (tOp r ta tb):=by
 intro pins s σ H Q I h
 exact wpAny_BinOp (binT ha hb I h fun v u s2 x y H2 I2 rx ry q=>ho pins s2 σ H2 x y v u Q I2 rx ry q)
theorem aEn {op : UnaryOp} {r : V→Hp→VK→Prop} (ho : UnR X (unaryOp op) r) (ha : PE X a ta) : PE X (.UnaryOp op a pos) (tUn r ta):=by
 intro pins s σ H Q I h
 exact UnaryOp_ (thn (ha pins s σ H _ I h) fun v s1 ⟨x,H1,I1,r1,q1⟩=>ho pins s1 σ H1 x v Q I1 r1 q1)
theorem opI {f : Value→Value→Sem Value} {C : Int→Int→Prop} {g : Int→Int→Int}
  (rule : ∀ (i j : Int) (t u : Tok) (s : Shared) (Q : Value→Shared→Prop) (E : Value→Shared→Prop),C i j→Q (.int (g i j) s.toks) { s with toks:=s.toks + 1 }→wpAny (model X.prog X.w) X.A (f (.int i t) (.int j u)) Q E s) :
  OpR X f (rI C fun i j=>.int (g i j)):=by
 intro pins s σ H x y v u Q I rx ry h
 obtain ⟨i,j,rfl,rfl,hc,q⟩:=h
 obtain ⟨t,rfl⟩:=rx
 obtain ⟨t',rfl⟩:=ry
 exact rule i j t t' s _ _ hc ⟨.int (g i j),H,I.tok _,⟨_,rfl⟩,q⟩
theorem opI0 {f : Value→Value→Sem Value} {g : Int→Int→Int}
  (rule : ∀ (i j : Int) (t u : Tok) (s : Shared) (Q : Value→Shared→Prop) (E : Value→Shared→Prop),Q (.int (g i j) s.toks) { s with toks:=s.toks + 1 }→wpAny (model X.prog X.w) X.A (f (.int i t) (.int j u)) Q E s) :
  OpR X f (rI0 fun i j=>.int (g i j)):=by
 intro pins s σ H x y v u Q I rx ry h
 obtain ⟨i,j,rfl,rfl,q⟩:=h
 obtain ⟨t,rfl⟩:=rx
 obtain ⟨t',rfl⟩:=ry
 exact rule i j t t' s _ _ ⟨.int (g i j),H,I.tok _,⟨_,rfl⟩,q⟩
theorem opB0 {f : Value→Value→Sem Value} {g : Int→Int→Bool}
  (rule : ∀ (i j : Int) (t u : Tok) (s : Shared) (Q : Value→Shared→Prop) (E : Value→Shared→Prop),Q (.bool (g i j)) s→wpAny (model X.prog X.w) X.A (f (.int i t) (.int j u)) Q E s) :
  OpR X f (rI0 fun i j=>.bl (g i j)):=by
 intro pins s σ H x y v u Q I rx ry h
 obtain ⟨i,j,rfl,rfl,q⟩:=h
 obtain ⟨t,rfl⟩:=rx
 obtain ⟨t',rfl⟩:=ry
 exact rule i j t t' s _ _ ⟨.bl (g i j),H,I,rfl,q⟩
def CDiv (i j : Int) : Prop:=0 < j∧j < 1073741824
def CPow (i j : Int) : Prop:=0 ≤ j∧j ≤ 1000000∧i.natAbs < 2 ^ 64
def CMul (i j : Int) : Prop:=(-(2 ^ 64) < i∧i < 2 ^ 64)∨(-(2 ^ 64) < j∧j < 2 ^ 64)
theorem CMul.ok {i j : Int} (h : CMul i j) : IntMulOk i j:=by
 rcases h with ⟨h1,h2⟩ | ⟨h1,h2⟩
 ·exact .of_left (intBits_le_64 h1 h2)
 ·exact .of_right (intBits_le_64 h1 h2)
theorem cJ : OpR X (binaryOp .Add) (rI0 fun i j=>.int (i + j)):=opI0 fun _ _ _ _ _ _ _ q=>add_int q
theorem iU : OpR X (binaryOp .Sub) (rI0 fun i j=>.int (i - j)):=opI0 fun _ _ _ _ _ _ _ q=>sub_int q
theorem fE : OpR X (binaryOp .Mult) (rI CMul fun i j=>.int (i * j)):=opI fun _ _ _ _ _ _ _ hc q=>mul_int q hc.ok
theorem pA : OpR X (binaryOp .FloorDiv) (rI CDiv fun i j=>.int (i / j)):=opI fun i j _ _ _ _ _ hc q=>by
 have h1 : (0 : Int) < j:=hc.1
 have h2 : j < 1073741824:=hc.2
 exact floordiv_int (by lia) (by rw [Int.fdiv_eq_ediv_of_nonneg i (by lia)]; exact q) (.inl (PyProof.noPylong_small (by lia)))
theorem eE : OpR X (binaryOp .Mod) (rI (fun _ j=>0 < j) fun i j=>.int (i % j)):=opI fun i j _ _ _ _ _ hc q=>by
 have h1 : (0 : Int) < j:=hc
 exact mod_int' (by lia) (by rw [Int.fmod_eq_emod_of_nonneg i (by lia)]; exact q)
theorem rY : OpR X (binaryOp .Pow) (rI CPow fun i j=>.int (i ^ j.toNat)):=opI fun _ _ _ _ _ _ _ hc q=>pow_int_small hc.1 hc.2.1 hc.2.2 q
theorem unI {f : Value→Sem Value} {g : Int→Int}
  (rule : ∀ (i : Int) (t : Tok) (s : Shared) (Q : Value→Shared→Prop) (E : Value→Shared→Prop),Q (.int (g i) s.toks) { s with toks:=s.toks + 1 }→wpAny (model X.prog X.w) X.A (f (.int i t)) Q E s) :
  UnR X f (rU fun i=>.int (g i)):=by
 intro pins s σ H x v Q I rx h
 obtain ⟨i,rfl,q⟩:=h
 obtain ⟨t,rfl⟩:=rx
 exact rule i t s _ _ ⟨.int (g i),H,I.tok _,⟨_,rfl⟩,q⟩
theorem aDC : UnR X (unaryOp .USub) (rU fun i=>.int (-i)):=unI fun _ _ _ _ _ q=>neg_int q
end
def scal : V→V→Bool
 | .non,.non=>true | .non,.int _=>true | .int _,.non=>true | .non,.bl _=>true | .bl _,.non=>true | .non,.str _=>true | .str _,.non=>true
 | .int _,.int _=>true | .bl _,.bl _=>true | .str _,.str _=>true | .byt _,.byt _=>true
 | .int _,.str _=>true | .str _,.int _=>true | .bl _,.str _=>true | .str _,.bl _=>true
 | _,_=>false
def rEq : R2:=fun x y H Q=>scal x y = true∧Q (.bl (decide (x = y))) H
def rNe : R2:=fun x y H Q=>scal x y = true∧Q (.bl (!decide (x = y))) H
theorem vL {i j : Int} : decide (V.int i = V.int j) = (i == j):=by
 rw [Bool.eq_iff_iff]
 simp
theorem zP {i j : Bool} : decide (V.bl i = V.bl j) = (i == j):=by
 rw [Bool.eq_iff_iff]
 simp
theorem vM {i j : Str} : decide (V.str i = V.str j) = (i == j):=by
 rw [Bool.eq_iff_iff]
 simp
theorem vN {i j : Array UInt8} : decide (V.byt i = V.byt j) = (i.toList == j.toList):=by
 rw [Bool.eq_iff_iff]
 cases i
 cases j
 simp
section
variable {X : Cx} {a b c : Expr} {ta tb tc : TE} {pos : Pos}
theorem bK {pins : List (Addr × Obj)} {σ : St} {H : Hp} {s : Shared} {Q : VK} {k k' : Bool} (I : Inv X pins σ H s) (q : Q (.bl k) H) (e : k = k') : EP X pins σ Q (.bool k') s:=by
 subst e
 exact ⟨.bl k,H,I,rfl,q⟩
theorem cP : OpR X (compareOp .Eq) rEq:=by
 intro pins s σ H x y v u Q I rx ry h
 obtain ⟨hs,q⟩:=h
 cases x with
 | non =>
  cases rx
  cases y with
  | non=>cases ry; exact PySem.EqNone.eq_none_none (bK I q (by simp))
  | bl j=>cases ry; exact PySem.EqNone.eq_none_bool (bK I q (by simp))
  | int j=>obtain ⟨t',rfl⟩:=ry; exact PySem.EqNone.eq_none_int (bK I q (by simp))
  | str j=>obtain ⟨t',rfl⟩:=ry; exact PySem.EqNone.eq_none_str (bK I q (by simp))
  | _=>exact absurd (show false = true from hs) Bool.false_ne_true
 | bl i =>
  cases rx
  cases y with
  | non=>cases ry; exact PySem.EqNone.eq_bool_none (bK I q (by simp))
  | bl j=>cases ry; exact eq_bool (bK I q zP)
  | str j=>obtain ⟨t',rfl⟩:=ry; exact PySem.EqMixed.eq_bool_str (bK I q (by simp))
  | _=>exact absurd (show false = true from hs) Bool.false_ne_true
 | int i =>
  obtain ⟨t,rfl⟩:=rx
  cases y with
  | non=>cases ry; exact PySem.EqNone.eq_int_none (bK I q (by simp))
  | int j=>obtain ⟨t',rfl⟩:=ry; exact eq_int (bK I q vL)
  | str j=>obtain ⟨t',rfl⟩:=ry; exact PySem.EqMixed.eq_int_str (bK I q (by simp))
  | _=>exact absurd (show false = true from hs) Bool.false_ne_true
 | str i =>
  obtain ⟨t,rfl⟩:=rx
  cases y with
  | non=>cases ry; exact PySem.EqNone.eq_str_none (bK I q (by simp))
  | bl j=>cases ry; exact PySem.EqMixed.eq_str_bool (bK I q (by simp))
  | int j=>obtain ⟨t',rfl⟩:=ry; exact PySem.EqMixed.eq_str_int (bK I q (by simp))
  | str j=>obtain ⟨t',rfl⟩:=ry; exact eq_str (bK I q vM)
  | _=>exact absurd (show false = true from hs) Bool.false_ne_true
 | byt i =>
  obtain ⟨t,rfl⟩:=rx
  cases y with
  | byt j=>obtain ⟨t',rfl⟩:=ry; exact PySem.W.eq_bytes (bK I q vN)
  | _=>exact absurd (show false = true from hs) Bool.false_ne_true
 | _=>cases y <;> exact absurd (show false = true from hs) Bool.false_ne_true
theorem gE : OpR X (compareOp .NotEq) rNe:=by
 intro pins s σ H x y v u Q I rx ry h
 obtain ⟨hs,q⟩:=h
 cases x with
 | non =>
  cases rx
  cases y with
  | non=>cases ry; exact PySem.EqNone.ne_none_none (bK I q (by simp))
  | bl j=>cases ry; exact PySem.EqNone.ne_none_bool (bK I q (by simp))
  | int j=>obtain ⟨t',rfl⟩:=ry; exact PySem.EqNone.ne_none_int (bK I q (by simp))
  | str j=>obtain ⟨t',rfl⟩:=ry; exact PySem.EqNone.ne_none_str (bK I q (by simp))
  | _=>exact absurd (show false = true from hs) Bool.false_ne_true
 | bl i =>
  cases rx
  cases y with
  | non=>cases ry; exact PySem.EqNone.ne_bool_none (bK I q (by simp))
  | bl j=>cases ry; exact ne_bool (bK I q (congrArg not zP))
  | str j=>obtain ⟨t',rfl⟩:=ry; exact PySem.EqMixed.ne_bool_str (bK I q (by simp))
  | _=>exact absurd (show false = true from hs) Bool.false_ne_true
 | int i =>
  obtain ⟨t,rfl⟩:=rx
  cases y with
  | non=>cases ry; exact PySem.EqNone.ne_int_none (bK I q (by simp))
  | int j=>obtain ⟨t',rfl⟩:=ry; exact ne_int (bK I q (congrArg not vL))
  | str j=>obtain ⟨t',rfl⟩:=ry; exact PySem.EqMixed.ne_int_str (bK I q (by simp))
  | _=>exact absurd (show false = true from hs) Bool.false_ne_true
 | str i =>
  obtain ⟨t,rfl⟩:=rx
  cases y with
  | non=>cases ry; exact PySem.EqNone.ne_str_none (bK I q (by simp))
  | bl j=>cases ry; exact PySem.EqMixed.ne_str_bool (bK I q (by simp))
  | int j=>obtain ⟨t',rfl⟩:=ry; exact PySem.EqMixed.ne_str_int (bK I q (by simp))
  | str j=>obtain ⟨t',rfl⟩:=ry; exact ne_str (bK I q (congrArg not vM))
  | _=>exact absurd (show false = true from hs) Bool.false_ne_true
 | byt i =>
  obtain ⟨t,rfl⟩:=rx
  cases y with
  | byt j=>obtain ⟨t',rfl⟩:=ry; exact PySem.W.ne_bytes (bK I q (congrArg not vN))
  | _=>exact absurd (show false = true from hs) Bool.false_ne_true
 | _=>cases y <;> exact absurd (show false = true from hs) Bool.false_ne_true
theorem gG : OpR X (compareOp .Lt) (rI0 fun i j=>.bl (decide (i < j))):=opB0 fun _ _ _ _ _ _ _ q=>lt_int q
theorem aB5 : OpR X (compareOp .LtE) (rI0 fun i j=>.bl (decide (i ≤ j))):=opB0 fun _ _ _ _ _ _ _ q=>le_int q
theorem rJ : OpR X (compareOp .Gt) (rI0 fun i j=>.bl (decide (j < i))):=opB0 fun _ _ _ _ _ _ _ q=>gt_int q
theorem nF : OpR X (compareOp .Is) (fun x y H Q=>y = .non∧Q (.bl (decide (x = .non))) H):=by
 intro pins s σ H x y v u Q I rx ry h
 obtain ⟨rfl,q⟩:=h
 cases ry
 refine is_none_gen (bK I q ?_)
 cases x <;> first
  | (cases rx; rfl)
  | (obtain ⟨t,rfl⟩:=rx; rfl)
theorem iV : OpR X (compareOp .IsNot) (fun x y H Q=>y = .non∧Q (.bl (!decide (x = .non))) H):=by
 intro pins s σ H x y v u Q I rx ry h
 obtain ⟨rfl,q⟩:=h
 cases ry
 refine isnot_none_gen (bK I q ?_)
 cases x <;> first
  | (cases rx; rfl)
  | (obtain ⟨t,rfl⟩:=rx; rfl)
theorem aV (b : Expr) {op : CmpOp} (h : op ≠ .In:=by decide) (h2 : op ≠ .NotIn:=by decide) : behindInMarks op b = false:=by
 have e1 : (op == CmpOp.In) = false:=by cases op <;> first | rfl | exact absurd rfl h
 have e2 : (op == CmpOp.NotIn) = false:=by cases op <;> first | rfl | exact absurd rfl h2
 cases b <;> simp [behindInMarks,e1,e2]
theorem gR {op : CmpOp} {r : R2} (ho : OpR X (compareOp op) r) (ha : PE X a ta) (hb : PE X b tb) (hm : behindInMarks op b = false) : PE X (.Compare a [op] [b] pos) (tOp r ta tb):=by
 intro pins s σ H Q I h
 exact wpAny_Compare1 (binT ha hb I h fun v u s2 x y H2 I2 rx ry q=>ho pins s2 σ H2 x y v u Q I2 rx ry q) hm
def gI (t : TE) : TT:=fun σ H Q=>t σ H fun x H'=>∃ k,x = .bl k∧Q k H'
theorem aQ {op : CmpOp} {r : R2} (ho : OpR X (compareOp op) r) (ha : PE X a ta) (hb : PE X b tb) (hm : behindInMarks op b = false) : PT X (.Compare a [op] [b] pos) (gI (tOp r ta tb)):=by
 intro pins s σ H Q I h
 refine wpAny_isTrue_Compare1 (thn (ha pins s σ H _ I h) fun v s1 ⟨x,H1,I1,r1,q1⟩=>thn (hb pins s1 σ H1 _ I1 q1) fun u s2 ⟨y,H2,I2,r2,q2⟩ =>
  thn (ho pins s2 σ H2 x y v u _ I2 r1 r2 q2) fun c s3 ⟨z,H3,I3,r3,k,e,q3⟩=>?_) hm
 subst e
 cases r3
 exact wpAny_truthy_bool ⟨H3,I3,q3⟩
def aDD (r r' : R2) (ta tb tc : TE) : TE:=fun σ H Q=>ta σ H fun x H1=>tb σ H1 fun y H2=>r x y H2 fun z H3=>∃ k,z = .bl k ∧
 (if k = true then tc σ H3 fun w' H4=>r' y w' H4 Q else Q (.bl false) H3)
theorem aBh {op op' : CmpOp} {r r' : R2} (ho : OpR X (compareOp op) r) (ho' : OpR X (compareOp op') r') (ha : PE X a ta) (hb : PE X b tb) (hc : PE X c tc)
  (hm : lastMarks [op,op'] [b,c] = false:=by with_unfolding_all rfl) : PE X (.Compare a [op,op'] [b,c] pos) (aDD r r' ta tb tc):=by
 intro pins s σ H Q I h
 refine Compare_chain (thn (ha pins s σ H _ I h) fun v s1 ⟨x,H1,I1,r1,q1⟩=>chain_link (thn (hb pins s1 σ H1 _ I1 q1) fun u s2 ⟨y,H2,I2,r2,q2⟩ =>
  thn (ho pins s2 σ H2 x y v u _ I2 r1 r2 q2) fun d s3 ⟨z,H3,I3,r3,k,e,q3⟩=>?_)) hm
 subst e
 cases r3
 refine wpAny_truthy_bool ?_
 cases k with
 | false=>exact ite_ff ⟨.bl false,H3,I3,rfl,q3⟩
 | true=>exact ite_tt (chain_last (thn (hc pins s3 σ H3 _ I3 q3) fun w' s4 ⟨z',H4,I4,r4,q4⟩=>ho' pins s4 σ H4 y z' u w' Q I4 r2 r4 q4))
theorem nG : (sizeLine : Nat) < 2 ^ 63:=by rw [sizeLine_eq]; decide
theorem rK {x : V} {us : List Value} (r : Vals [x] us) : ∃ u,us = [u]∧RelV x u:=by
 cases r with
 | cons r1 r2=>cases r2; exact ⟨_,rfl,r1⟩
theorem xF {x y : V} {us : List Value} (r : Vals [x,y] us) : ∃ u w',us = [u,w']∧RelV x u∧RelV y w':=by
 cases r with
 | cons r1 r2 =>
  cases r2 with
  | cons r3 r4=>cases r4; exact ⟨_,_,rfl,r1,r3⟩
theorem aBi : cI X (.builtin "abs") (fun xs H Q=>∃ i,xs = [.int i]∧Q (.int (if i < 0 then -i else i)) H):=by
 intro pins s σ H xs us Q I r h
 obtain ⟨i,rfl,q⟩:=h
 obtain ⟨u,rfl,t,rfl⟩:=rK r
 exact call_abs_int fun u tk=>⟨.int (if i < 0 then -i else i),H,I.tok _,⟨_,rfl⟩,q⟩
theorem jZ (hc : X.calm = true) : cI X (.builtin "max") (fun xs H Q=>∃ i j,xs = [.int i,.int j]∧Q (.int (if j > i then j else i)) H):=by
 intro pins s σ H xs us Q I r h
 obtain ⟨i,j,rfl,q⟩:=h
 obtain ⟨u,w',rfl,⟨t,rfl⟩,⟨t',rfl⟩⟩:=xF r
 refine max_two_ints (I.ok.hd hc) fun h' tk k=>⟨_,H,I.kept k,?_,q⟩
 by_cases hj : j > i
 ·rw [if_pos hj,if_pos hj]; exact ⟨_,rfl⟩
 ·rw [if_neg hj,if_neg hj]; exact ⟨_,rfl⟩
theorem qG (hc : X.calm = true) : cI X (.builtin "min") (fun xs H Q=>∃ i j,xs = [.int i,.int j]∧Q (.int (if j < i then j else i)) H):=by
 intro pins s σ H xs us Q I r h
 obtain ⟨i,j,rfl,q⟩:=h
 obtain ⟨u,w',rfl,⟨t,rfl⟩,⟨t',rfl⟩⟩:=xF r
 refine min_two_ints (I.ok.hd hc) fun h' tk k=>⟨_,H,I.kept k,?_,q⟩
 by_cases hj : j < i
 ·rw [if_pos hj,if_pos hj]; exact ⟨_,rfl⟩
 ·rw [if_neg hj,if_neg hj]; exact ⟨_,rfl⟩
theorem uR : cI X (.builtin "divmod") (fun xs H Q=>∃ i j,xs = [.int i,.int j]∧CDiv i j∧∀ p,H p = none→Q (.ref p) (upd H p (.tup [.int (i / j),.int (i % j)]))):=by
 intro pins s σ H xs us Q I r h
 obtain ⟨i,j,rfl,⟨h1,h2⟩,q⟩:=h
 obtain ⟨u,w',rfl,⟨t,rfl⟩,⟨t',rfl⟩⟩:=xF r
 refine divmod_int (by lia) ?_ (.inl (PyProof.noPylong_small (by lia)))
 rw [Int.fdiv_eq_ediv_of_nonneg i (by lia),Int.fmod_eq_emod_of_nonneg i (by lia)]
 have hn : H s.heap.objs.size = none:=I.hok.fresh (Nat.le_refl _)
 refine ⟨.ref s.heap.objs.size,_,?_,rfl,q _ hn⟩
 refine I.laid (fun b o e=>Heap.get?_push_of_some _ e) (Nat.le_refl _) ⟨by simp only [List.length_cons,List.length_nil]; rw [sizeLine_eq]; decide,[.int (i / j) s.toks,.int (i % j) (s.toks + 1)],.cons ⟨_,rfl⟩ (.cons ⟨_,rfl⟩ .nil),?_⟩
 exact ⟨_,Heap.get?_push_size s.heap rfl,rfl,0,rfl,rfl⟩
end
end L2
namespace L2
open PySem PySem.Spec PyProof.Rows
structure ObjM (h : Heap) (x dx C : Addr) (mA : Str→Option Value) : Prop where
 obj : h.get? x = some (PySem.W.instObj C dx)
 ns : h.Ns1 dx mA
 ne : dx ≠ x
theorem zQ {h : Heap} {dx : Addr} {mA : Str→Option Value} (n : h.Ns1 dx mA) : ∃ od,h.get? dx = some od∧∀ name,PySem.W.lookIn name od = some (mA name):=by
 obtain ⟨o,es,ep,ho,hd,hk,_,hm⟩:=n
 refine ⟨o,ho,fun name=>?_⟩
 have e:=hm name
 unfold nsFind findBy at e
 rw [← Array.find?_toList] at e
 unfold PySem.W.lookIn
 rw [hd]
 dsimp only
 split
 ·rename_i y q
  rw [q] at e
  exact congrArg some e
 ·rename_i q
  rw [q] at e
  have a : es.toList.any (·.refKey) = false:=by
   rw [List.any_eq_false]
   intro y hy
   obtain ⟨z,t,hkey⟩:=hk y (Array.mem_toList_iff.mp hy)
   simp [DictEntry.refKey,hkey]
  have a' : ¬ es.toList.any (·.refKey) = true:=by rw [a]; exact Bool.false_ne_true
  rw [if_neg a']
  exact congrArg some e
theorem ObjM.look {h : Heap} {x dx C : Addr} {mA : Str→Option Value} (I : ObjM h x dx C mA) : ∃ od,PySem.W.InstAt h x (PySem.W.instObj C dx) C (some od)∧∀ name,PySem.W.lookIn name od = some (mA name) :=
 let ⟨od,ho,hl⟩:=zQ I.ns
 ⟨od,⟨I.obj,rfl,rfl,ho⟩,hl⟩
section
variable {prog : Program} {w : World} {A : Around} {E : Value→Shared→Prop} {s : Shared} {K : PySem.W.Frag} {x dx C f : Addr} {mA : Str→Option Value} {name : Str} {v : Value}
theorem aCq {expr : Bool} {Q : Value→Shared→Prop} (X : K.In s.heap) (I : ObjM s.heap x dx C mA) (hg : PySem.W.plainGet K C name = true) (hh : PySem.W.hasDictIn K C = true)
  (ha : PySem.W.findIn K (.ref C) name = some none) (hv : mA name = some v) (hv' : PySem.W.handedIn v = true) (h : Q v { s with toks:=s.toks + 1 }) :
  wpAny (model prog w) A (getAttr (.ref x) name expr) Q E s:=by
 obtain ⟨od,J,hl⟩:=I.look
 exact PySem.W.get_value X J (PySem.W.plainGet_of hg).1 (PySem.W.findObj_own hh ha rfl (by rw [hl,hv])) hv' h
theorem aBj {pl : Sem Bool} {Q : Value × List Value→Shared→Prop} (X : K.In s.heap) (I : ObjM s.heap x dx C mA) (hg : PySem.W.plainGet K C name = true)
  (hf : PySem.W.findIn K (.ref C) name = some (some (.ref f))) (ht : PySem.W.isFn K (.ref f) = true) (hv : mA name = none) (h : Q (.ref f,[.ref x]) s) :
  wpAny (model prog w) A (getMethod (.ref x) name pl) Q E s:=by
 obtain ⟨od,J,hl⟩:=I.look
 exact PySem.W.method_fn X J (PySem.W.plainGet_of hg).1 (PySem.W.plainGet_of hg).2 hf (beq_iff_eq.mp ht) (by show (PySem.W.lookIn name od).map (·.isSome) = some false; rw [hl,hv]; rfl) h
theorem aCr {ns : List Str} {Q : Unit→Shared→Prop} (X : K.In s.heap) (I : ObjM s.heap x dx C mA)
  (hs : PySem.W.findIn K (.ref C) "__setattr__" = some (some (.builtin "object.__setattr__"))) (hp : PySem.W.plainOver K C = true) (ht : PySem.W.takerIn K C name = some none) (hh : PySem.W.hasDictIn K C = true)
  (hw : PySem.Within mA ns) (hsz : ns.length ≤ sizeLine)
  (h : ∀ h',ObjM h' x dx C (fun y=>if y = name then some v else mA y)→Heap.SameBut dx s.heap h'→Q () { s with heap:=h',toks:=s.toks + 2 }) :
  wpAny (model prog w) A (setAttr (.ref x) name v) Q E s:=by
 obtain ⟨od,J,hl⟩:=I.look
 refine PySem.W.set_plain X J hs (PySem.W.osa_open (s:={ s with toks:=s.toks + 1 }) (r:=none) X J hp ht fun b=>?_)
 obtain ⟨cd,hc,hd'⟩:=PySem.W.any_some hh
 have hx : s.heap.get? x = some ⟨.ref C,some dx,.plain,#[]⟩:=I.obj
 refine wpAny_bind (wpAny_pure (wpAny_bind (wpAny_bind (wpAny_loadPart hx (wpAny_bind (PySem.W.Looks.here (s:={ s with toks:=s.toks + 1 }) (PySem.W.looks_clsIn X hc) ?_))))))
 rw [hd']
 refine wpAny_pure (a:=some dx) (wpAny_bind (wpAny_pure (wpAny_bind ?_)))
 refine wpAny_nsSet1 (s:={ s with toks:=s.toks + 1 }) I.ns fun h' hn2 hs2=>?_
 obtain ⟨oD,esD,epD,hoD,hdD,hcD⟩:=hn2.count (PySem.Within.cons name v hw)
 refine wpAny_bind (wpAny_lookBehind hoD (by rw [hdD]; exact pastItsLine_dict (Nat.le_trans hcD (by rw [List.length_cons]; lia))) ?_)
 exact wpAny_pure (h _ ⟨(hs2.2 _ (Ne.symm I.ne)).trans I.obj,hn2,I.ne⟩ hs2)
theorem aBk {R : Result→Shared→Prop} {vs : List Value} {kw : List (Str × Value)} (X : K.In s.heap) (hm : PySem.W.makesIn K C = true)
  (hi : PySem.W.findIn K (.ref C) "__init__" = some (some (.ref f))) (hf : PySem.W.typeIn K (.ref f) = some (.type "function"))
  (h : codeAny (model prog w) (A.under (.builtin "type.__call__" ⟨.ref C :: vs,kw⟩)) (.call (.ref f) ⟨.ref (s.heap.objs.size + 1) :: vs,kw⟩) (PySem.W.InitBack (s.heap.objs.size + 1) R)
   { s with heap:=(s.heap.push PySem.W.emptyDict).push (PySem.W.instObj C s.heap.objs.size) }) :
  codeAny (model prog w) A (.call (.ref C) ⟨vs,kw⟩) R s:=by
 obtain ⟨hh,g,d,t,os⟩:=s
 exact PySem.W.make_core (PySem.W.makes_of X hm) (PySem.W.looks_findIn X hi) (fun self=>PySem.W.bind_fn X self hf) (.inl rfl) h
end
def putF (f : Str) (v : V) : List (Str × V)→List (Str × V)
 | []=>[(f,v)]
 | (g,x) :: r=>if g = f then (g,v) :: r else (g,x) :: putF f v r
theorem bS (f g : Str) (v : V) : ∀ fs : List (Str × V),(putF f v fs).lookup g = if g = f then some v else fs.lookup g
 | []=>by
  show List.lookup g [(f,v)] = _
  by_cases h : g = f
  ·have hb : (g == f) = true:=beq_iff_eq.mpr h
   simp only [List.lookup,hb,if_pos h]
  ·have hb : (g == f) = false:=beq_eq_false_iff_ne.mpr h
   simp only [List.lookup,hb,if_neg h]
 | (k,x) :: r=>by
  have ih:=bS f g v r
  rw [show putF f v ((k,x) :: r) = (if k = f then (k,v) :: r else (k,x) :: putF f v r) from rfl]
  by_cases hk : k = f
  ·rw [if_pos hk]
   by_cases h : g = k
   ·have hb : (g == k) = true:=beq_iff_eq.mpr h
    simp only [List.lookup,hb,if_pos (h.trans hk)]
   ·have hb : (g == k) = false:=beq_eq_false_iff_ne.mpr h
    simp only [List.lookup,hb,if_neg (fun e : g = f=>h (e.trans hk.symm))]
  ·rw [if_neg hk]
   by_cases h : g = k
   ·have hb : (g == k) = true:=beq_iff_eq.mpr h
    simp only [List.lookup,hb,if_neg (fun e : g = f=>hk (h.symm.trans e))]
   ·have hb : (g == k) = false:=beq_eq_false_iff_ne.mpr h
    simp only [List.lookup,hb]
    exact ih
theorem kA (f : Str) (v : V) : ∀ fs : List (Str × V),f∈(putF f v fs).map (·.1)∧∀ g,g∈fs.map (·.1)→g∈(putF f v fs).map (·.1)
 | []=>⟨by simp [putF],fun g h=>by simp at h⟩
 | (k,x) :: r=>by
  obtain ⟨i1,i2⟩:=kA f v r
  rw [show putF f v ((k,x) :: r) = (if k = f then (k,v) :: r else (k,x) :: putF f v r) from rfl]
  by_cases hk : k = f
  ·rw [if_pos hk]
   subst hk
   exact ⟨by simp,fun g h=>by simpa using h⟩
  ·rw [if_neg hk]
   refine ⟨?_,fun g h=>?_⟩
   ·rw [List.map_cons]
    exact List.mem_cons_of_mem _ i1
   ·rw [List.map_cons] at h ⊢
    rcases List.mem_cons.mp h with e | e
    ·exact List.mem_cons.mpr (.inl e)
    ·exact List.mem_cons_of_mem _ (i2 g e)
theorem dF (f : Str) (v : V) : ∀ fs : List (Str × V),(putF f v fs).length ≤ fs.length + 1
 | []=>by simp [putF]
 | (k,x) :: r=>by
  have ih:=dF f v r
  rw [show putF f v ((k,x) :: r) = (if k = f then (k,v) :: r else (k,x) :: putF f v r) from rfl]
  by_cases hk : k = f
  ·rw [if_pos hk,List.length_cons,List.length_cons]; lia
  ·rw [if_neg hk,List.length_cons,List.length_cons]; lia
theorem RelO.some_of {v : V} {o : Option Value} (r : RelO (some v) o) : ∃ u,o = some u∧RelV v u:=by
 cases o with
 | none=>exact (show False from r).elim
 | some u=>exact ⟨u,rfl,r⟩
theorem RelO.none_of {o : Option Value} (r : RelO none o) : o = none:=by
 cases o with
 | none=>rfl
 | some u=>exact (show False from r).elim
theorem zR {v : V} {u : Value} (r : RelV v u) : PySem.W.handedIn u = true:=by
 cases v with
 | non=>cases (show u = Value.none from r); rfl
 | bl b=>cases (show u = Value.bool b from r); rfl
 | int i=>obtain ⟨t,e⟩:=(show ∃ t,u = Value.int i t from r); cases e; rfl
 | str x=>obtain ⟨t,e⟩:=(show ∃ t,u = Value.str x t from r); cases e; rfl
 | byt b=>obtain ⟨t,e⟩:=(show ∃ t,u = Value.bytes b t from r); cases e; rfl
 | flt b=>obtain ⟨t,e⟩:=(show ∃ t,u = Value.float b t from r); cases e; rfl
 | ref a=>cases (show u = Value.ref a from r); rfl
 | ty n=>cases (show u = Value.type n from r); rfl
section
variable {P : Program} {w : World} {H H' : Hp} {h h' : Heap} {a C dx : Addr} {fs fs' : List (Str × V)}
theorem lD (hok : HOk P w H h) (e : H a = some (.ins C dx fs)) : ∃ mA,ObjM h a dx C mA∧(∀ f,RelO (fs.lookup f) (mA f))∧PySem.Within mA (fs.map (·.1))∧fs.length ≤ 1000∧H dx = some (.own a):=by
 obtain ⟨d,z,ne,ob,mA,n,r,q⟩:=(show bP P w H h a (.ins C dx fs) from hok a _ e)
 exact ⟨mA,⟨ob,n,ne⟩,r,q,z,d⟩
end
structure Cls (K : PySem.W.Frag) (C : Addr) : Prop where
 pg : PySem.W.plainGet K C Str.empty = true
 hd : PySem.W.hasDictIn K C = true
 po : PySem.W.plainOver K C = true
 sa : PySem.W.findIn K (.ref C) "__setattr__" = some (some (.builtin "object.__setattr__"))
theorem Cls.get {K : PySem.W.Frag} {C : Addr} (c : Cls K C) (f : Str) : PySem.W.plainGet K C f = true:=c.pg
def eU (K : PySem.W.Frag) (C : Addr) (f : Str) : Prop:=PySem.W.findIn K (.ref C) f = some none
theorem eU.taker {K : PySem.W.Frag} {C : Addr} {f : Str} (n : eU K C f) : PySem.W.takerIn K C f = some none:=by
 unfold PySem.W.takerIn
 rw [show PySem.W.findIn K (.ref C) f = some none from n]
 rfl
structure Meth (K : PySem.W.Frag) (C : Addr) (m : Str) (f : Addr) : Prop where
 at_ : PySem.W.findIn K (.ref C) m = some (some (.ref f))
 fn : PySem.W.isFn K (.ref f) = true
 kp : PySem.W.keepIn K (.ref f) = true
section
variable {X : Cx} {pins : List (Addr × Obj)} {σ : St} {H : Hp} {s : Shared} {a C dx : Addr} {fs : List (Str × V)} {f : Str} {v : V} {A : Around} {E : Value→Shared→Prop}
theorem xG {b : Bool} {Q : Value→Shared→Prop} (I : Inv X pins σ H s) (e : H a = some (.ins C dx fs)) (c : Cls X.K C) (n : eU X.K C f) (l : fs.lookup f = some v)
  (h : ∀ u s',Inv X pins σ H s'→RelV v u→Q u s') : wpAny (model X.prog X.w) A (getAttr (.ref a) f b) Q E s:=by
 obtain ⟨mA,O,r,_,_,_⟩:=lD I.hok e
 obtain ⟨u,hu,ru⟩:=RelO.some_of (v:=v) (o:=mA f) (by rw [← l]; exact r f)
 exact aCq I.kIn O (c.get f) c.hd n hu (zR ru) (h u _ (I.tok _) ru)
theorem xH {m : Str} {g : Addr} {pl : Sem Bool} {Q : Value × List Value→Shared→Prop} (I : Inv X pins σ H s) (e : H a = some (.ins C dx fs)) (c : Cls X.K C) (k : Meth X.K C m g) (l : fs.lookup m = none)
  (h : Q (.ref g,[.ref a]) s) : wpAny (model X.prog X.w) A (getMethod (.ref a) m pl) Q E s:=by
 obtain ⟨mA,O,r,_,_,_⟩:=lD I.hok e
 have hn : mA m = none:=RelO.none_of (by rw [← l]; exact r m)
 exact aBj I.kIn O (c.get m) k.at_ k.fn hn h
theorem xI {y : V} {u : Value} {Q : Unit→Shared→Prop} (I : Inv X pins σ H s) (e : H a = some (.ins C dx fs)) (c : Cls X.K C) (n : eU X.K C f) (hl : fs.length < 1000) (ry : RelV y u)
  (h : ∀ s',Inv X pins σ (upd H a (.ins C dx (putF f y fs))) s'→Q () s') : wpAny (model X.prog X.w) A (setAttr (.ref a) f u) Q E s:=by
 obtain ⟨mA,O,r,wi,_,ho⟩:=lD I.hok e
 have hz : (fs.map (·.1)).length ≤ sizeLine:=by rw [List.length_map,sizeLine_eq]; lia
 refine aCr I.kIn O c.sa c.po n.taker c.hd wi hz fun h' O' sb=>h _ ?_
 have hd : ∃ o,h'.get? dx = some o:=let ⟨o,_,_,e',_⟩:=O'.ns; ⟨o,e'⟩
 refine I.write (x:=a) (e:=dx) (by rw [e]; exact True.intro) (.inr ho) (fun b q hb z=>(sb.2 b hb).trans z) hd ?_
 refine ⟨by rw [aH O.ne]; exact ho,?_,O.ne,O'.obj,_,O'.ns,fun g=>?_,fun g hg=>?_⟩
 ·have:=dF f y fs; lia
 ·show RelO ((putF f y fs).lookup g) (if g = f then some u else mA g)
  rw [bS]
  by_cases q : g = f
  ·rw [if_pos q,if_pos q]; exact ry
  ·rw [if_neg q,if_neg q]; exact r g
 ·by_cases q : g = f
  ·rw [q]; exact (kA f y fs).1
  ·refine (kA f y fs).2 g (wi g fun z=>hg ?_)
   show (if g = f then some u else mA g) = none
   rw [if_neg q]; exact z
theorem Inv.made (I : Inv X pins σ H s) : Inv X pins σ (upd (upd H s.heap.objs.size (.own (s.heap.objs.size + 1))) (s.heap.objs.size + 1) (.ins C s.heap.objs.size []))
  { s with heap:=(s.heap.push PySem.W.emptyDict).push (PySem.W.instObj C s.heap.objs.size) }:=by
 have e1 : (s.heap.push PySem.W.emptyDict).get? s.heap.objs.size = some PySem.W.emptyDict:=Heap.get?_push_size s.heap rfl
 have e2 : ((s.heap.push PySem.W.emptyDict).push (PySem.W.instObj C s.heap.objs.size)).get? (s.heap.objs.size + 1) = some (PySem.W.instObj C s.heap.objs.size):=by
  have:=Heap.get?_push_size (s.heap.push PySem.W.emptyDict) (o:=PySem.W.instObj C s.heap.objs.size) rfl
  rwa [Heap.size_push] at this
 have e3 : (s.heap.push PySem.W.emptyDict).Ns s.heap.objs.size (fun _=>none):=⟨PySem.W.emptyDict,#[],_,e1,rfl,(fun e he=>absurd he (by simp)),fun _=>rfl⟩
 have I1:=I.laid (a:=s.heap.objs.size) (o:=.own (s.heap.objs.size + 1)) (h':=s.heap.push PySem.W.emptyDict) (t':=s.toks) (fun b u q=>Heap.get?_push_of_some _ q) (Nat.le_refl _) ⟨_,e1⟩
 refine I1.laid (a:=s.heap.objs.size + 1) (o:=.ins C s.heap.objs.size []) (t':=s.toks) (fun b u q=>Heap.get?_push_of_some _ q) (Nat.le_of_eq (Heap.size_push _ _)) ?_
 have ne : s.heap.objs.size ≠ s.heap.objs.size + 1:=Nat.ne_of_lt (Nat.lt_succ_self _)
 refine ⟨by rw [aH ne,aD],Nat.zero_le _,ne,e2,fun _=>none,(Heap.Ns1.of_empty e3).at fun o q=>Heap.get?_push_of_some _ q,fun _=>True.intro,fun y hy=>absurd rfl hy⟩
theorem aCs {prog : Program} {w : World} {env : Env} {e : Expr} {f : Str} {pos : Pos} {s : Shared} {Q : Value→Shared→Prop} (hb : attributeBase e f env (eval e env) = eval e env)
  (h : wpAny (model prog w) A (eval e env) (fun o s₁=>wpAny (model prog w) A (getAttr o f true) Q E s₁) E s) : wpAny (model prog w) A (eval (.Attribute e f pos) env) Q E s :=
 Attribute_any_ h (by rw [arm_eval_Attribute,hb])
end
def tFld (K : PySem.W.Frag) (ta : TE) (f : Str) : TE:=fun σ H Q=>ta σ H fun x H1=>∃ a C dx fs v,x = .ref a∧H1 a = some (.ins C dx fs)∧Cls K C∧eU K C f∧fs.lookup f = some v∧Q v H1
def sFld (K : PySem.W.Frag) (ta tv : TE) (f : Str) : TS:=fun D σ H=>tv σ H fun y H1=>ta σ H1 fun x H2=>∃ a C dx fs,x = .ref a∧H2 a = some (.ins C dx fs)∧Cls K C∧eU K C f∧fs.length < 1000 ∧
 D.nx σ (upd H2 a (.ins C dx (putF f y fs)))
section
variable {X : Cx} {o e value : Expr} {f : Str} {pos pos' tpos : Pos} {ta tv : TE}
theorem nI (he : PE X e ta) (hb : attributeBase e f X.env (eval e X.env) = eval e X.env) : PE X (.Attribute e f pos) (tFld X.K ta f):=by
 intro pins s σ H Q I h
 refine aCs hb (thn (he pins s σ H _ I h) fun u s1 ⟨x,H1,I1,rx,a,C,dx,fs,v,ex,ea,c,n,l,q⟩=>?_)
 subst ex
 obtain rfl : u = Value.ref a:=rx
 exact xG I1 ea c n l fun u' s2 I2 ru=>⟨v,H1,I2,ru,q⟩
theorem nJ (ha : PE X o ta) (hv : PE X value tv) (hs : swapsWith value (some (.Attribute o f pos')) pos.line X.env = pure false) : PS X (.Assign [.Attribute o f pos'] value pos) (sFld X.K ta tv f):=by
 intro pins s σ H D I h
 refine plainObj_wpAny_Assign_Attribute (thn (hv pins s σ H _ I h) fun u s1 ⟨y,H1,I1,ry,q⟩=>thn (ha pins s1 σ H1 _ I1 q) fun ov s2 ⟨x,H2,I2,rx,a,C,dx,fs,ex,ea,c,n,l,q2⟩=>?_) hs
 subst ex
 obtain rfl : ov = Value.ref a:=rx
 exact xI I2 ea c n l ry fun s3 I3=>⟨σ,_,I3,q2⟩
end
section
variable {X : Cx} {pins : List (Addr × Obj)} {σ : St} {H : Hp} {s : Shared} {A : Around} {E : Value→Shared→Prop} {Q : Value→Shared→Prop} {c : Value} {b : Bool}
inductive TyOf (K : PySem.W.Frag) (H : Hp) : V→Value→Prop where
 | non : TyOf K H .non (.type "NoneType")
 | bl (x : Bool) : TyOf K H (.bl x) (.type "bool")
 | int (i : Int) : TyOf K H (.int i) (.type "int")
 | str (x : Str) : TyOf K H (.str x) (.type "str")
 | flt (x : UInt64) : TyOf K H (.flt x) (.type "float")
 | lst {a : Addr} {xs : List V} (e : H a = some (.lst xs)) : TyOf K H (.ref a) (.type "list")
 | frz {a : Addr} {o : Obj} {xs : List V} (e : H a = some (.frz o (.lst xs))) : TyOf K H (.ref a) (.type "list")
 | tup {a : Addr} {xs : List V} (e : H a = some (.tup xs)) : TyOf K H (.ref a) (.type "tuple")
 | dK {a : Addr} {kvs : List (Key × V)} (e : H a = some (.dK kvs)) : TyOf K H (.ref a) (.type "dict")
 | dT {a : Addr} {kvs : List (List Key × V)} (e : H a = some (.dT kvs)) : TyOf K H (.ref a) (.type "dict")
 | ins {a C dx : Addr} {fs : List (Str × V)} (e : H a = some (.ins C dx fs)) (cl : Cls K C) (ha : PySem.W.findIn K (.ref C) "__class__" = some (some (.builtin "object.__class__")))
   (hn : PySem.W.specialIn K (.builtin "object.__class__") "__get__" = some (some (.builtin "getset_descriptor.__get__"))) (htk : PySem.W.takesIn K (.builtin "object.__class__") = some true)
   (hm : PySem.W.mroIn K C (.type "object") = some true) : TyOf K H (.ref a) (.ref C)
theorem zS {x : V} {u t : Value} (I : Inv X pins σ H s) (rx : RelV x u) (ty : TyOf X.K H x t) (e : PySem.W.kitOne X.K t c = some b) (h : ∀ tk,Q (.bool b) { s with toks:=tk }) :
  wpAny (model X.prog X.w) A (call (.builtin "isinstance") [u,c]) Q E s:=by
 cases ty with
 | non=>cases (show u = Value.none from rx); exact PySem.W.kia_one PySem.W.kitx_none I.kIn True.intro e (fun z=>nomatch z) h
 | bl y=>cases (show u = Value.bool y from rx); exact PySem.W.kia_one PySem.W.kitx_bool I.kIn True.intro e (fun z=>nomatch z) h
 | int i=>obtain ⟨t,q⟩:=(show ∃ t,u = Value.int i t from rx); cases q; exact PySem.W.kia_one PySem.W.kitx_int I.kIn True.intro e (fun z=>nomatch z) h
 | str y=>obtain ⟨t,q⟩:=(show ∃ t,u = Value.str y t from rx); cases q; exact PySem.W.kia_one PySem.W.kitx_str I.kIn True.intro e (fun z=>nomatch z) h
 | flt y=>obtain ⟨t,q⟩:=(show ∃ t,u = Value.float y t from rx); cases q; exact PySem.W.kia_one PySem.W.kitx_float I.kIn True.intro e (fun z=>nomatch z) h
 | @lst a xs ea =>
  cases (show u = Value.ref a from rx)
  obtain ⟨_,_,n,_,h1⟩:=(show bP X.prog X.w H s.heap a (.lst xs) from I.hok a _ ea)
  exact PySem.W.kia_one PySem.W.kitx_list I.kIn ⟨_,h1,rfl⟩ e (fun z=>nomatch z) h
 | @frz a ob xs ea =>
  cases (show u = Value.ref a from rx)
  obtain ⟨_,_,_,n,_,h1⟩:=(show bP X.prog X.w H s.heap a (.frz ob (.lst xs)) from I.hok a _ ea)
  exact PySem.W.kia_one PySem.W.kitx_list I.kIn ⟨_,h1,rfl⟩ e (fun z=>nomatch z) h
 | @tup a xs ea =>
  cases (show u = Value.ref a from rx)
  obtain ⟨_,_,_,p⟩:=(show bP X.prog X.w H s.heap a (.tup xs) from I.hok a _ ea)
  obtain ⟨o,h1,h2,_⟩:=p
  exact PySem.W.kia_one PySem.W.kitx_tuple I.kIn ⟨o,h1,h2⟩ e (fun z=>nomatch z) h
 | @dK a kvs ea =>
  cases (show u = Value.ref a from rx)
  obtain ⟨_,_,vs,_,p⟩:=(show bP X.prog X.w H s.heap a (.dK kvs) from I.hok a _ ea)
  obtain ⟨o,es,ep,h1,h2,_⟩:=p
  exact PySem.W.kia_one PySem.W.kitx_dict I.kIn ⟨o,h1,h2.1⟩ e (fun z=>nomatch z) h
 | @dT a kvs ea =>
  cases (show u = Value.ref a from rx)
  obtain ⟨_,_,xs,_,o,es,ep,h1,h2,_⟩:=(show bP X.prog X.w H s.heap a (.dT kvs) from I.hok a _ ea)
  exact PySem.W.kia_one PySem.W.kitx_dict I.kIn ⟨o,h1,h2.1⟩ e (fun z=>nomatch z) h
 | @ins a C dx fs ea cl ha hn htk hm =>
  cases (show u = Value.ref a from rx)
  obtain ⟨mA,O,_⟩:=lD I.hok ea
  obtain ⟨od,J,_⟩:=O.look
  exact PySem.W.kia_one (PySem.W.kitx_own (cl.get _) cl.hd ha hn htk hm) I.kIn J e (fun z=>nomatch z) h
end
end L2
namespace L2
open PySem PySem.Spec PyProof.Rows
structure Room (k : Nat) (A : Around) : Prop where
 hd : A.handled = none
 dp : A.depth + 3 * k + 5 < recursionLimit
 un : A.units + 16 * k + 200 < cLine
 gd : A.guards = some []
theorem Room.mono {j k : Nat} {A : Around} (r : Room k A) (h : j ≤ k) : Room j A:=⟨r.hd,by have:=r.dp; lia,by have:=r.un; lia,r.gd⟩
theorem Room.deeper {k : Nat} {A : Around} (r : Room (k + 1) A) (env : Env) : Room k (A.deeper env) :=
 ⟨r.hd,by have:=r.dp; show A.depth + 1 + 3 * k + 5 < _; lia,by have:=r.un; show A.units + 3 + 16 * k + 200 < _; lia,r.gd⟩
theorem xJ {A : Around} {C : Addr} {us : List Value} {kw : List (Str × Value)} : (A.under (.builtin "type.__call__" ⟨.ref C :: us,kw⟩)).depth = A.depth + 1:=by
 first | rfl | simp [Around.under,Code.weight,Code.isCreation,Code.isGuard,Code.isCaller,Code.frames,Code.isFrame,guardIds]
theorem xK {A : Around} {C : Addr} {us : List Value} {kw : List (Str × Value)} : (A.under (.builtin "type.__call__" ⟨.ref C :: us,kw⟩)).units = A.units + 1:=by
 first | rfl | simp [Around.under,Code.cUnits,Code.frames,Code.isFrame]
theorem Room.make {k : Nat} {A : Around} (r : Room (k + 1) A) (C : Addr) (us : List Value) (kw : List (Str × Value)) : Room k (A.under (.builtin "type.__call__" ⟨.ref C :: us,kw⟩)) :=
 ⟨r.hd,by have:=r.dp; rw [xJ]; lia,by have:=r.un; rw [xK]; lia,r.gd⟩
theorem Room.depth {k : Nat} {A : Around} (r : Room k A) : A.depth < recursionLimit:=by have:=r.dp; lia
theorem Room.u {k n : Nat} {A : Around} (r : Room k A) (h : n ≤ 200:=by decide) : A.units + n < cLine:=by have:=r.un; lia
def tNil : TA:=fun _ H Q=>Q [] H
def bE (ta : TE) (tr : TA) : TA:=fun σ H Q=>ta σ H fun x H1=>tr σ H1 fun xs H2=>Q (x :: xs) H2
section
variable {X : Cx} {e : Expr} {es : List Expr} {te : TE} {t : TA} {pos : Pos}
theorem aB : PA X [] tNil:=fun _ _ _ _ H Q I h=>Calls.spliced_nil ⟨[],H,I,.nil,h⟩
theorem aA (ha : PE X e te) (hr : PA X es t) (hs : starEach (e :: es) X.env = (false,eval e X.env) :: starEach es X.env:=by rfl) : PA X (e :: es) (bE te t):=by
 intro pos pins s σ H Q I h
 rw [hs]
 show wpAny _ _ (spliced ((false,eval e X.env) :: backTo pos (starEach es X.env))) _ _ s
 refine Calls.spliced_cons (thn (ha pins s σ H _ I h) fun u s1 ⟨x,H1,I1,r1,q1⟩=>?_)
 exact thn (hr pos pins s1 σ H1 _ I1 q1) fun us s2 ⟨xs,H2,I2,r2,q2⟩=>⟨x :: xs,H2,I2,.cons r1 r2,q2⟩
def tTup (t : TA) : TE:=fun σ H Q=>t σ H fun xs H1=>xs.length ≤ sizeLine∧∀ p,H1 p = none→Q (.ref p) (upd H1 p (.tup xs))
def tLst (t : TA) : TE:=fun σ H Q=>t σ H fun xs H1=>xs.length ≤ sizeLine∧∀ p,H1 p = none→Q (.ref p) (upd H1 p (.lst xs))
theorem bA {x1} (h : PA X es t) : PE X (.Tuple es x1 pos) (tTup t):=by
 intro pins s σ H Q I hq
 refine wpAny_Tuple_spliced (thn (h pos pins s σ H _ I hq) fun us s1 ⟨xs,H1,I1,r,z,q⟩=>⟨by rw [← r.length]; exact z,?_⟩)
 have hf : H1 s1.heap.objs.size = none:=I1.hok.fresh (Nat.le_refl _)
 refine ⟨.ref s1.heap.objs.size,upd H1 s1.heap.objs.size (.tup xs),I1.laid (t':=s1.toks) (fun b u e=>Heap.get?_push_of_some _ e) (Nat.le_refl _) ?_,rfl,q _ hf⟩
 exact ⟨z,us,r,⟨_,Heap.get?_push_size _ rfl,rfl,_,rfl,rfl⟩⟩
theorem bW (h : PA X es t) : PE X (.List es pos) (tLst t):=by
 intro pins s σ H Q I hq
 refine wpAny_List_spliced (thn (h pos pins s σ H _ I hq) fun us s1 ⟨xs,H1,I1,r,z,q⟩=>⟨by rw [← r.length]; exact z,?_⟩)
 have hf : H1 s1.heap.objs.size = none:=I1.hok.fresh (Nat.le_refl _)
 refine ⟨.ref s1.heap.objs.size,upd H1 s1.heap.objs.size (.lst xs),I1.laid (t':=s1.toks) (fun b u e=>Heap.get?_push_of_some _ e) (Nat.le_refl _) ?_,rfl,q _ hf⟩
 exact ⟨z,us,0,r,Heap.get?_push_size _ rfl⟩
end
abbrev Sp:=List V→Hp→VK→XK→Prop
abbrev CXT:=List Env→Hp→Shared→XK→Value→Shared→Prop
structure Env0 (P : Program) (w : World) (K : PySem.W.Frag) (mg : Str→Option Value) (base : Heap) (A : Around) (outer : List Env) (s : Shared) (H : Hp) : Prop where
 frames : A.frames = some outer
 mod : Mod K mg base
 bs : ∀ b o,base.get? b = some o→s.heap.get? b = some o∧H b = none
 bsz : base.objs.size ≤ s.heap.objs.size
 funs : s.heap.FunFrames base outer
 frf : ∀ b∈frs outer,H b = none
 hok : HOk P w H s.heap
 bare : AllBare s.gens
def CE (outer : List Env) (P : Program) (w : World) (H : Hp) (s : Shared) (Q : VK) (u : Value) (s' : Shared) : Prop :=
 ∃ v H',s'.os = s.os∧AllBare s'.gens∧Un (frs outer) [] H H' s.heap s'.heap∧HOk P w H' s'.heap∧RelV v u∧Q v H'
def CR (CX : CXT) (outer : List Env) (P : Program) (w : World) (H : Hp) (s : Shared) (Q : VK) (E : XK) (r : Result) (s' : Shared) : Prop :=
 match r with
 | .ok (.ret u)=>CE outer P w H s Q u s'
 | .ok _=>False
 | .error e=>CX outer H s E e s'
structure FnOk (P : Program) (w : World) (K : PySem.W.Frag) (mg : Str→Option Value) (base : Heap) (CX : CXT) (k : Nat) (f : Addr) (fd : FuncData) (ps : List Str) (sp : Sp) : Prop where
 len : ∀ vs H Q E,sp vs H Q E→vs.length = ps.length
 run : ∀ (A : Around) (outer : List Env) (s : Shared) (H : Hp) (args : Args) (us : List Value) (vs : List V) (Q : VK) (E : XK),Room k A→Env0 P w K mg base A outer s H→BindsTo s fd args (ps.zip us)→Vals vs us→sp vs H Q E →
  codeAny (model P w) A (.call (.ref f) args) (CR CX outer P w H s Q E) s
theorem Env0.make {P : Program} {w : World} {K : PySem.W.Frag} {mg : Str→Option Value} {base : Heap} {A : Around} {outer : List Env} {s : Shared} {H : Hp} (e : Env0 P w K mg base A outer s H) (C : Addr) (us : List Value) (kw : List (Str × Value)) :
  Env0 P w K mg base (A.under (.builtin "type.__call__" ⟨.ref C :: us,kw⟩)) outer s H:=⟨by first | exact e.frames | (simpa [Around.under,Code.envs,Code.isFrame,pushEnvs] using e.frames),e.mod,e.bs,e.bsz,e.funs,e.frf,e.hok,e.bare⟩
section
variable {X : Cx} {pins : List (Addr × Obj)} {σ : St} {H : Hp} {s s' : Shared}
theorem Inv.env0 (I : Inv X pins σ H s) : Env0 X.prog X.w X.K X.mg X.base X.A X.stack s H :=
 ⟨I.ok.frames,I.ok.mod,I.bs,Nat.le_trans I.ok.bsz I.sz,I.stack,I.stkFree,I.hok,I.bare⟩
theorem Inv.after {Q : VK} {u : Value} (I : Inv X pins σ H s) (h : CE X.stack X.prog X.w H s Q u s') : EP X pins σ Q u s':=by
 obtain ⟨v,H',os,bare,un,hok,r,q⟩:=h
 obtain ⟨hh,g,d,t,os'⟩:=s'
 obtain rfl : os' = s.os:=os
 exact ⟨v,H',I.call (h':=hh) (g':=g) (d':=d) (t':=t) (ch:=[]) un hok bare (fun b z=>absurd z (by simp)),r,q⟩
end
def lE (sp : Sp) (dvs : List V) (E : XK) (t : TA) : TE:=fun σ H Q=>t σ H fun vs H1=>sp (vs ++ dvs) H1 Q E
def aEo (C : Addr) (m : Str) (sp : Sp) (dvs : List V) (E : XK) (ta : TE) (t : TA) : TE:=fun σ H Q=>ta σ H fun x H1=>∃ a dx fs,x = .ref a∧H1 a = some (.ins C dx fs)∧fs.lookup m = none ∧
 t σ H1 fun vs H2=>sp (x :: (vs ++ dvs)) H2 Q E
def aEp (C : Addr) (sp : Sp) (dvs : List V) (E : XK) (t : TA) : TE:=fun σ H Q=>t σ H fun vs H1=>∀ x dx,H1 x = none→H1 dx = none→dx ≠ x →
 sp (.ref x :: (vs ++ dvs)) (upd (upd H1 dx (.own x)) x (.ins C dx [])) (fun v H2=>v = .non∧Q (.ref x) H2) E
def fG (K : PySem.W.Frag) (fd : FuncData) (ps : List Str) (ds : List Value) : Prop :=
 ∀ (s : Shared) (us : List Value),K.In s.heap→(us ++ ds).length = ps.length→BindsTo s fd ⟨us,[]⟩ (ps.zip (us ++ ds))
theorem fG.all {K : PySem.W.Frag} {fd : FuncData} {ps : List Str} (h : ∀ us : List Value,us.length = ps.length→bindArgs fd ⟨us,[]⟩ = pure (ps.zip us)) : fG K fd ps []:=fun s us _ hl=>by
 rw [List.append_nil] at hl ⊢
 exact .of_eq (h us hl)
def hV (CX : CXT) (X : Cx) (E : XK) : Prop:=∀ (pins : List (Addr × Obj)) (σ : St) (H : Hp) (s : Shared) (e : Value) (s' : Shared),Inv X pins σ H s→CX X.stack H s E e s'→X.xe e s'
section
variable {X : Cx} {CX : CXT} {k : Nat} {f C : Addr} {fd : FuncData} {ps : List Str} {sp : Sp} {dvs : List V} {ds : List Value} {E : XK} {x m : Str} {p pos apos : Pos} {e o : Expr} {es : List Expr} {ta : TE} {t : TA}
theorem zT {pins : List (Addr × Obj)} {σ : St} {H : Hp} {s : Shared} {Q : VK} {us : List Value} {vs : List V} (F : FnOk X.prog X.w X.K X.mg X.base CX k f fd ps sp) (hr : Room k X.A) (hb : fG X.K fd ps ds) (hd : Vals dvs ds) (hx : hV CX X E)
  (I : Inv X pins σ H s) (r : Vals vs us) (h : sp (vs ++ dvs) H Q E) : wpAny (model X.prog X.w) X.A (call (.ref f) us) (EP X pins σ Q) X.xe s:=by
 have r2 : Vals (vs ++ dvs) (us ++ ds):=r.append hd
 have hl : (us ++ ds).length = ps.length:=by rw [← r2.length]; exact F.len _ _ _ _ h
 refine wpAny_call (codeAny_mono (F.run X.A X.stack s H ⟨us,[]⟩ (us ++ ds) (vs ++ dvs) Q E hr I.env0 (hb s us I.kIn hl) r2 h) fun r s' hq=>?_)
 cases r with
 | error e=>exact hx pins σ H s e s' I hq
 | ok fl =>
  cases fl with
  | ret u=>exact I.after hq
  | next=>exact False.elim hq
  | brk=>exact False.elim hq
  | cont=>exact False.elim hq
theorem aCt (F : FnOk X.prog X.w X.K X.mg X.base CX k f fd ps sp) (hr : Room k X.A) (hg : Gl X x) (hm : X.mg x = some (.ref f)) (hk : PySem.W.keepIn X.K (.ref f) = true) (hb : fG X.K fd ps ds) (hd : Vals dvs ds) (hx : hV CX X E)
  (ha : PA X (e :: es) t) (hdb : (x == ("__debug__" : Str)) = false:=by decide) (he : starEach (e :: es) X.env = (false,eval e X.env) :: starEach es X.env:=by rfl) (hpl : (backTo pos (starEach es X.env)).any (·.1) = false:=by rfl) :
  PE X (.Call (.Name x p) (e :: es) [] pos) (lE sp dvs E t):=by
 intro pins s σ H Q I h
 refine wpAny_Call_Name_kw (oX I hg hm ?_ hdb)
 refine PySem.W.callWith_K (h₀:=X.base) I.ok.mod.kin hk (thn (ha pos pins s σ H _ I h) fun us s1 ⟨vs,H1,I1,r,q⟩=>⟨I1.kIn,?_⟩) he hpl
 exact zT F hr hb hd hx I1 r q
theorem vO {pl : Sem Bool} (he : PE X o ta) (c : Cls X.K C) (hm : Meth X.K C m f) (F : FnOk X.prog X.w X.K X.mg X.base CX k f fd ps sp) (hr : Room k X.A) (hb : fG X.K fd ps ds) (hd : Vals dvs ds) (hx : hV CX X E) (ha : PA X (e :: es) t)
  (hst : starEach (e :: es) X.env = (false,eval e X.env) :: starEach es X.env:=by rfl) (hpl : (backTo pos (starEach es X.env)).any (·.1) = false:=by rfl)
  (ht : eval (.Call (.Attribute o m apos) (e :: es) [] pos) X.env = (do
   let ov ← eval o X.env
   standAt apos.atName
   let (f,first) ← holding [ov] (getMethod ov m pl)
   callWith pos f first (backTo pos (starEach (e :: es) X.env)) (backToKw pos (keywordEach [] X.env))):=by rfl) :
  PE X (.Call (.Attribute o m apos) (e :: es) [] pos) (aEo C m sp dvs E ta t):=by
 intro pins s σ H Q I h
 refine PySem.W.methodCall_KW (pl:=pl) (thn (he pins s σ H _ I h) fun u s1 ⟨x,H1,I1,rx,a,dx,fs,ex,ea,l,q⟩=>?_) ht
 subst ex
 obtain rfl : u = Value.ref a:=rx
 refine xH I1 ea c hm l ?_
 refine PySem.W.callWith_K (first:=[.ref a]) (h₀:=X.base) I.ok.mod.kin hm.kp (thn (ha pos pins s1 σ H1 _ I1 q) fun us s2 ⟨vs,H2,I2,r,q2⟩=>⟨I2.kIn,?_⟩) hst hpl
 exact zT (us:=.ref a :: us) (vs:=.ref a :: vs) F hr hb hd hx I2 (.cons rfl r) q2
structure Mk (K : PySem.W.Frag) (C f : Addr) : Prop where
 makes : PySem.W.makesIn K C = true
 init : PySem.W.findIn K (.ref C) "__init__" = some (some (.ref f))
 fn : PySem.W.isFn K (.ref f) = true
 kp : PySem.W.keepIn K (.ref C) = true
theorem aBl {pins : List (Addr × Obj)} {σ : St} {H : Hp} {s : Shared} {Q : VK} {us : List Value} {vs : List V} (M : Mk X.K C f) (F : FnOk X.prog X.w X.K X.mg X.base CX k f fd ps sp) (hr : Room (k + 1) X.A) (hb : fG X.K fd ps ds) (hd : Vals dvs ds)
  (hx : hV CX X E) (I : Inv X pins σ H s) (r : Vals vs us)
  (h : ∀ x dx,H x = none→H dx = none→dx ≠ x→sp (.ref x :: (vs ++ dvs)) (upd (upd H dx (.own x)) x (.ins C dx [])) (fun v H2=>v = .non∧Q (.ref x) H2) E) :
  wpAny (model X.prog X.w) X.A (call (.ref C) us) (EP X pins σ Q) X.xe s:=by
 have hq:=h (s.heap.objs.size + 1) s.heap.objs.size (I.hok.fresh (Nat.le_succ _)) (I.hok.fresh (Nat.le_refl _)) (Nat.ne_of_lt (Nat.lt_succ_self _))
 have I2:=Inv.made (C:=C) I
 have r2 : Vals (V.ref (s.heap.objs.size + 1) :: (vs ++ dvs)) (Value.ref (s.heap.objs.size + 1) :: (us ++ ds)):=.cons rfl (r.append hd)
 have hl : (Value.ref (s.heap.objs.size + 1) :: us ++ ds).length = ps.length:=by
  have e:=r2.length
  rw [F.len _ _ _ _ hq] at e
  exact e.symm
 refine wpAny_call (aBk (f:=f) I.kIn M.makes M.init (beq_iff_eq.mp M.fn) (codeAny_mono (F.run _ X.stack _ _ ⟨Value.ref (s.heap.objs.size + 1) :: us,[]⟩ (Value.ref (s.heap.objs.size + 1) :: (us ++ ds)) _ _ E (hr.make C us [])
  (I2.env0.make C us []) (hb _ (Value.ref (s.heap.objs.size + 1) :: us) I2.kIn hl) r2 hq) fun r s' hq'=>?_))
 cases r with
 | error e=>exact hx pins σ _ _ e s' I2 hq'
 | ok fl =>
  cases fl with
  | ret u =>
   obtain ⟨v,H',I3,rv,ev,q3⟩:=I2.after hq'
   subst ev
   exact ⟨rv,⟨V.ref (s.heap.objs.size + 1),H',I3,rfl,q3⟩⟩
  | next=>exact False.elim hq'
  | brk=>exact False.elim hq'
  | cont=>exact False.elim hq'
theorem aCu (M : Mk X.K C f) (F : FnOk X.prog X.w X.K X.mg X.base CX k f fd ps sp) (hr : Room (k + 1) X.A) (hg : Gl X x) (hm : X.mg x = some (.ref C)) (hb : fG X.K fd ps ds) (hd : Vals dvs ds) (hx : hV CX X E)
  (ha : PA X (e :: es) t) (hdb : (x == ("__debug__" : Str)) = false:=by decide) (he : starEach (e :: es) X.env = (false,eval e X.env) :: starEach es X.env:=by rfl) (hpl : (backTo pos (starEach es X.env)).any (·.1) = false:=by rfl) :
  PE X (.Call (.Name x p) (e :: es) [] pos) (aEp C sp dvs E t):=by
 intro pins s σ H Q I h
 refine wpAny_Call_Name_kw (oX I hg hm ?_ hdb)
 refine PySem.W.callWith_K (h₀:=X.base) I.ok.mod.kin M.kp (thn (ha pos pins s σ H _ I h) fun us s1 ⟨vs,H1,I1,r,q⟩=>⟨I1.kIn,?_⟩) he hpl
 exact aBl M F hr hb hd hx I1 r q
end
def PK (X : Cx) (kws : List Keyword) (t : TA) : Prop :=
 ∀ (pos : Pos) (pins : List (Addr × Obj)) (s : Shared) (σ : St) (H : Hp) (Q : List V→Hp→Prop),Inv X pins σ H s→t σ H Q→wpAny (model X.prog X.w) X.A (evalAll ((backToKw pos (keywordEach kws X.env)).map (·.2))) (AP X pins σ Q) X.xe s
section
variable {X : Cx} {CX : CXT} {k : Nat} {f C : Addr} {fd : FuncData} {ps ks : List Str} {sp : Sp} {E : XK} {x m : Str} {p pos apos kpos : Pos} {e o : Expr} {es : List Expr} {kws : List Keyword} {te ta : TE} {t tk : TA} {nm : Option Str}
theorem aDE : PK X [] tNil:=fun _ _ _ _ H Q I h=>wpAny_evalAll_nil ⟨[],H,I,.nil,h⟩
theorem aCv (ha : PE X e te) (hr : PK X kws t) : PK X (⟨nm,e,kpos⟩ :: kws) (bE te t):=by
 intro pos pins s σ H Q I h
 show wpAny _ _ (evalAll ((do let v ← eval e X.env; standAt pos; pure v) :: (backToKw pos (keywordEach kws X.env)).map (·.2))) _ _ s
 refine wpAny_evalAll_cons (wpAny_bind (thn (ha pins s σ H _ I h) fun u s1 ⟨x,H1,I1,r1,q1⟩=>wpAny_bind (wpAny_standAt (wpAny_pure ?_))))
 exact thn (hr pos pins s1 σ H1 _ I1 q1) fun us s2 ⟨xs,H2,I2,r2,q2⟩=>⟨x :: xs,H2,I2,.cons r1 r2,q2⟩
variable {g : List Value→List Value→List Value} {gV : List V→List V→List V}
end
structure aZ (N P : List Str) (sc : Scope) : Prop where
 kind : sc.kind = .function
 co : sc.isCoroutine = false
 gen : sc.isGenerator = false
 nd : N.Nodup
 pre : N.take P.length = P
 par : ∀ x∈P,sc.names.lookup x = some .local∨sc.names.lookup x = some .cell
 nofree : ∀ y∈sc.names,y.2 ≠ .free
theorem qH {kindOf : Str→Option NameKind} {x : Str} : ∀ {binds : List (Str × Value)} {m : Str→Option Value},(∀ v,(x,v) ∉ binds)→bindL kindOf binds m x = m x
 | [],_,_=>rfl
 | (n,v) :: r,m,h=>by
  unfold bindL
  rw [qH fun w hw=>h w (List.mem_cons_of_mem _ hw)]
  split
  ·have : x ≠ n:=by rintro rfl; exact h v List.mem_cons_self
   simp [this]
  ·rfl
theorem qI {kindOf : Str→Option NameKind} {x : Str} : ∀ {binds : List (Str × Value)} {m : Str→Option Value},(∀ v,(x,v) ∉ binds)→bindC kindOf binds m x = m x
 | [],_,_=>rfl
 | (n,v) :: r,m,h=>by
  unfold bindC
  rw [qI fun w hw=>h w (List.mem_cons_of_mem _ hw)]
  split
  ·rfl
  ·have : x ≠ n:=by rintro rfl; exact h v List.mem_cons_self
   simp [this]
theorem qJ {kindOf : Str→Option NameKind} {x : Str} {v : Value} : ∀ {P : List Str} {vs : List Value} {i : Nat} {m : Str→Option Value},P.Nodup→P[i]? = some x→vs[i]? = some v→kindOf x = some .local →
  bindL kindOf (P.zip vs) m x = some v
 | [],_,_,_,_,h,_,_=>by simp at h
 | _ :: _,[],_,_,_,_,h,_=>by simp at h
 | p :: P,w :: vs,0,m,nd,h1,h2,hk=>by
  simp at h1 h2; subst h1; subst h2
  show bindL kindOf ((p,w) :: P.zip vs) m p = _
  unfold bindL
  rw [qH fun v hv=>(List.nodup_cons.mp nd).1 (List.of_mem_zip hv).1,if_pos hk]
  simp
 | p :: P,w :: vs,i + 1,m,nd,h1,h2,hk=>by
  show bindL kindOf ((p,w) :: P.zip vs) m x = _
  unfold bindL
  exact qJ (i:=i) (List.nodup_cons.mp nd).2 (by simpa using h1) (by simpa using h2) hk
theorem qK {kindOf : Str→Option NameKind} {x : Str} {v : Value} : ∀ {P : List Str} {vs : List Value} {i : Nat} {m : Str→Option Value},P.Nodup→P[i]? = some x→vs[i]? = some v→kindOf x ≠ some .local →
  bindC kindOf (P.zip vs) m x = some v
 | [],_,_,_,_,h,_,_=>by simp at h
 | _ :: _,[],_,_,_,_,h,_=>by simp at h
 | p :: P,w :: vs,0,m,nd,h1,h2,hk=>by
  simp at h1 h2; subst h1; subst h2
  show bindC kindOf ((p,w) :: P.zip vs) m p = _
  unfold bindC
  rw [qI fun v hv=>(List.nodup_cons.mp nd).1 (List.of_mem_zip hv).1,if_neg hk]
  simp
 | p :: P,w :: vs,i + 1,m,nd,h1,h2,hk=>by
  show bindC kindOf ((p,w) :: P.zip vs) m x = _
  unfold bindC
  exact qK (i:=i) (List.nodup_cons.mp nd).2 (by simpa using h1) (by simpa using h2) hk
def start (N : List Str) (vs : List V) : St:=vs.map some ++ List.replicate (N.length - vs.length) none
def cxOf (CX : CXT) (P : Program) (w : World) (K : PySem.W.Frag) (mg : Str→Option Value) (base : Heap) (N : List Str) (qual : Str) (scope : Scope) (f : Addr) (cd : Value) (A : Around) (outer : List Env) (s : Shared) (H : Hp) (E : XK) : Cx where
 prog:=P
 w:=w
 K:=K
 mg:=mg
 base:=base
 A:=A.deeper (envOfC qual scope s.heap.objs.size f cd)
 N:=N
 s₀:=s
 H₀:=H
 env:=envOfC qual scope s.heap.objs.size f cd
 outer:=outer
 stack:=envOfC qual scope s.heap.objs.size f cd :: outer
 ex:=[]
 calm:=true
 fn:=fun _=>true
 pn:=[]
 xe:=fun e s'=>wpAny (model P w) (A.deeper (envOfC qual scope s.heap.objs.size f cd)) (leaving (envOfC qual scope s.heap.objs.size f cd) e) (fun _ s''=>CX outer H s E e s'') (fun e' s''=>CX outer H s E e' s'') s'
theorem rZ {sc : Scope} {n : Nat} {x : Str} (h : sc.names.lookup x = some .cell) : ∃ c,(cellsFrom n sc.names []).lookup x = some c:=by
 have q:=PySem.W.cellsFrom_some sc.names n [] (.inl h)
 exact Option.isSome_iff_exists.mp q
theorem zU {CX : CXT} {P : Program} {w : World} {K : PySem.W.Frag} {mg : Str→Option Value} {base : Heap} {N ps : List Str} {qual : Str} {scope : Scope} {f : Addr} {cd : Value} {A : Around} {outer : List Env} {s s1 : Shared} {H : Hp} {E : XK} {us : List Value} {vs : List V}
  (S : aZ N ps scope) (hd : A.handled = none) (e0 : Env0 P w K mg base A outer s H) (hl : vs.length = ps.length) (r : Vals vs us)
  (x : InCallC s s.heap.objs.size (bindL (envOfC qual scope s.heap.objs.size f cd).kindOf (ps.zip us) fun _=>none) (cellsFrom (s.heap.objs.size + 1) scope.names []) (bindC (envOfC qual scope s.heap.objs.size f cd).kindOf (ps.zip us) fun _=>none) s1) :
  Inv (cxOf CX P w K mg base N qual scope f cd A outer s H E) [] (start N vs) H s1:=by
 have hpl : ps.length ≤ N.length:=by have:=congrArg List.length S.pre; rw [List.length_take] at this; lia
 obtain ⟨h1,tk,rfl,hk⟩:=x.done
 have noA : ∀ b : Addr,b ∉ (cxOf CX P w K mg base N qual scope f cd A outer s H E).ex:=fun b z=>absurd (show b∈([] : List Addr) from z) (by simp)
 refine ⟨⟨e0.mod,S.kind,rfl,rfl,Nat.le_refl _,fun y z c h1 h2=>?_,fun y hy=>?_,fun y c _ h=>?_,fun _=>hd,Around.frames_deeper e0.frames,.inr ⟨rfl,rfl⟩,fun b z=>absurd z (noA b),e0.bs,e0.bsz,fun b _ _=>noA b,fun b z=>absurd z (noA b),e0.funs,e0.frf⟩,
  rfl,e0.bare,Un.kept hk,⟨_,x.toInCall.ns,fun i y v h1 h2 h3=>?_⟩,fun y c h=>⟨_,x.cell y c h⟩,e0.hok.fresh (Nat.le_refl _),fun y c h=>?_,fun p hp=>absurd (show p∈([] : List (Addr × Obj)) from hp) (by simp),e0.hok.kept hk,?_⟩
 ·exact name_of_addr x.apart (PySem.mem_of_lookup h1) (PySem.mem_of_lookup h2)
 ·have hy : scope.names.lookup y = some .cell∨scope.names.lookup y = some .free:=hy
  rcases hy with hy | hy
  ·exact rZ hy
  ·exact absurd rfl (S.nofree _ (PySem.mem_of_lookup hy))
 ·exact Nat.le_of_lt (x.above y c (PySem.mem_of_lookup h))
 ·have hi : i < vs.length:=by
   unfold start at h2
   by_cases hi : i < vs.length
   ·exact hi
   ·rw [List.getElem?_append_right (by simpa using hi)] at h2
    rw [List.getElem?_replicate] at h2
    split at h2 <;> cases h2
  have ha : vs[i]? = some v:=by
   unfold start at h2
   rw [List.getElem?_append_left (by simpa using hi),List.getElem?_map] at h2
   cases e : vs[i]? with
   | none=>rw [e] at h2; cases h2
   | some a=>rw [e] at h2; cases h2; rfl
  obtain ⟨u,hu,rv⟩:=r.get ha
  have hp : ps[i]? = some y:=by
   rw [← S.pre,List.getElem?_take_of_lt (by lia)]; exact h1
  have ndP : ps.Nodup:=by rw [← S.pre]; exact S.nd.sublist (List.take_sublist _ _)
  refine ⟨u,rv,?_⟩
  rcases S.par y (List.mem_of_getElem? hp) with k | k
  ·exact .inl ⟨k,qJ ndP hp hu k⟩
  ·obtain ⟨c,e⟩:=rZ (n:=s.heap.objs.size + 1) k
   refine .inr ⟨.inl k,c,e,?_⟩
   have q:=x.cell y c e
   rw [qK ndP hp hu (by show scope.names.lookup y ≠ _; rw [k]; decide)] at q
   exact q
 ·exact e0.hok.fresh (Nat.le_of_lt (x.above y c (PySem.mem_of_lookup h)))
 ·unfold start
  show _ = N.length
  rw [List.length_append,List.length_map,List.length_replicate]
  lia
theorem aB6 {CX : CXT} {P : Program} {w : World} {K : PySem.W.Frag} {mg : Str→Option Value} {base : Heap} {k : Nat} {f : Addr} {name qual : Str} {params : Arguments} {body : List Stmt} {scope : Scope} {dV kV doc pm cdv ct oc : Value} {an od : Option Addr}
  {osl : Array (Option Value)} {N ps : List Str} {sp : Sp} (lk : K.lookup f = some ⟨oc,od,.func (PySem.W.fnOf name qual params body scope dV kV doc pm an cdv ct),osl⟩) (hcd : PySem.W.codeIn K cdv qual = true) (S : aZ N ps scope)
  (len : ∀ vs H Q E,sp vs H Q E→vs.length = ps.length)
  (hbody : ∀ (A : Around) (outer : List Env) (s : Shared) (H : Hp) (vs : List V) (Q : VK) (E : XK),Room k (A.deeper (envOfC qual scope s.heap.objs.size f cdv))→sp vs H Q E →
   ∃ t,PSs (cxOf CX P w K mg base N qual scope f cdv A outer s H E) body t∧t { nx:=fun _ H'=>Q .non H',rt:=Q } (start N vs) H) :
  FnOk P w K mg base CX (k + 1) f (PySem.W.fnOf name qual params body scope dV kV doc pm an cdv ct) ps sp:=by
 refine ⟨len,fun A outer s H args us vs Q E hr e0 hb r hsp=>?_⟩
 have hl:=len _ _ _ _ hsp
 have KX : K.In s.heap:=e0.mod.kin.keeps fun b o e=>(e0.bs b o e).1
 have lim : s.heap.NoLimit:=e0.mod.nolimit.keeps fun b o e=>(e0.bs b o e).1
 have hkind : ∀ y∈ps.zip us,scope.names.lookup y.1 = some .local∨(scope.names.lookup y.1 = some .cell∧((cellsFrom (s.heap.objs.size + 1) scope.names []).lookup y.1).isSome = true):=fun ⟨n,v⟩ hy=>by
  rcases S.par n (List.of_mem_zip hy).1 with q | q
  ·exact .inl q
  ·exact .inr ⟨q,PySem.W.cellsFrom_some _ _ _ (.inl q)⟩
 refine codeAny_call_function hr.depth (KX _ _ lk) rfl S.co S.gen rfl (PySem.W.codeRec_of KX hcd) (hb _ _ _ _ ?_)
 refine wpAny_newFunctionEnv_cells S.kind hkind fun env he s1 x=>?_
 subst he
 refine ⟨lim.keeps x.toInCall.keep,codeAny_func ?_⟩
 obtain ⟨t,ht,hq⟩:=hbody A outer s H vs Q E (hr.deeper _) hsp
 have I : Inv (cxOf CX P w K mg base N qual scope f cdv A outer s H E) [] (start N vs) H s1:=zU S hr.hd e0 hl r x
 refine wpAny_mono (ht [] s1 (start N vs) H _ I hq) (fun fl s' hs=>?_) fun e s' hs=>hs
 have fin : ∀ {σ' : St} {H' : Hp} {v : V} {u : Value},Inv (cxOf CX P w K mg base N qual scope f cdv A outer s H E) [] σ' H' s'→RelV v u→Q v H'→CE outer P w H s Q u s' :=
  fun {σ' H' v u} J rv q=>⟨v,H',J.os,J.bare,J.base,J.hok,rv,q⟩
 cases fl with
 | ret u =>
  obtain ⟨v,σ',H',J,rv,q⟩:=hs
  exact fin J rv q
 | next =>
  obtain ⟨σ',H',J,q⟩:=hs
  exact fin (v:=V.non) (u:=Value.none) J rfl q
 | brk =>
  obtain ⟨_,_,_,q⟩:=hs
  exact False.elim q
 | cont =>
  obtain ⟨_,_,_,q⟩:=hs
  exact False.elim q
end L2
namespace L2
open PySem PySem.Spec PyProof.Rows
section
variable {X : Cx} {x : Str} {p pos : Pos} {e : Expr} {es : List Expr} {t : TA} {id T : String} {r : List V→Hp→VK→Prop}
def tCB (r : List V→Hp→VK→Prop) (t : TA) : TE:=fun σ H Q=>t σ H fun vs H1=>r vs H1 Q
theorem aN (hc : cI X (.builtin id) r) (hg : Gl X x) (hm : X.mg x = none) (hv : bootBuiltins x = some (.builtin id)) (ha : PA X (e :: es) t) (hn : x ≠ "__name__" := by decide) (hdb : (x == ("__debug__" : Str)) = false:=by decide)
  (he : starEach (e :: es) X.env = (false,eval e X.env) :: starEach es X.env:=by rfl) (hpl : (backTo pos (starEach es X.env)).any (·.1) = false:=by rfl) : PE X (.Call (.Name x p) (e :: es) [] pos) (tCB r t):=by
 intro pins s σ H Q I h
 refine wpAny_Call_Name_kw (iS I hg hm hv ?_ hn hdb)
 exact PyProof.Rows.callWith_builtin1 (thn (ha pos pins s σ H _ I h) fun us s1 ⟨vs,H1,I1,r1,q1⟩=>hc pins s1 σ H1 vs us Q I1 r1 q1) he hpl
theorem cT (hc : cI X (.type T) r) (hg : Gl X x) (hm : X.mg x = none) (hv : bootBuiltins x = some (.type T)) (ha : PA X (e :: es) t) (hn : x ≠ "__name__" := by decide) (hdb : (x == ("__debug__" : Str)) = false:=by decide)
  (he : starEach (e :: es) X.env = (false,eval e X.env) :: starEach es X.env:=by rfl) (hpl : (backTo pos (starEach es X.env)).any (·.1) = false:=by rfl) : PE X (.Call (.Name x p) (e :: es) [] pos) (tCB r t):=by
 intro pins s σ H Q I h
 refine wpAny_Call_Name_kw (iS I hg hm hv ?_ hn hdb)
 exact PyProof.Rows.callWith_type1 (thn (ha pos pins s σ H _ I h) fun us s1 ⟨vs,H1,I1,r1,q1⟩=>hc pins s1 σ H1 vs us Q I1 r1 q1) he hpl
end
end L2
namespace HT
open PySem PyProof.Rows
section
open PySem.SeqAt
open PySem.AutoSeq1 (wpAny_loadPart')
open PySem.MeetsSeq PySem.MeetsSeq2 PySem.MeetsSeq3
end
section
variable {prog : Program} {w : World} {A : Around} {E : Value→Shared→Prop} {s : Shared}
def sIx (n d : Nat) : Option Int→Nat
 | none=>d
 | some v=>if v < 0 then (v + (n : Int)).toNat else min v.toNat n
theorem aDF (n d : Nat) (hd : d ≤ n) (o : Option Int) : sIx n d o ≤ n:=by
 cases o with
 | none=>exact hd
 | some v =>
  show (if v < 0 then (v + (n : Int)).toNat else min v.toNat n) ≤ n
  by_cases hv : v < 0
  ·rw [if_pos hv]; lia
  ·rw [if_neg hv]; exact Nat.min_le_right _ _
theorem vP (v : Int) (n d : Nat) : (if v < 0 then max (v + (n : Int)) 0 else min v (n : Int)) = ((sIx n d (some v) : Nat) : Int):=by
 show (if v < 0 then max (v + (n : Int)) 0 else min v (n : Int)) = (((if v < 0 then (v + (n : Int)).toNat else min v.toNat n) : Nat) : Int)
 by_cases hv : v < 0
 ·simp only [if_pos hv]; lia
 ·simp only [if_neg hv]; lia
theorem xL (lo hi : Option Int) (n : Nat) : Builtin.Slice.sliceAdjust lo hi 1 (n : Int) = (((sIx n 0 lo : Nat) : Int),((sIx n n hi : Nat) : Int)):=by
 have h1 : ¬ ((1 : Int) < 0):=by lia
 unfold Builtin.Slice.sliceAdjust
 simp only [h1,if_false]
 refine Prod.ext ?_ ?_
 ·cases lo with
  | none=>rfl
  | some v=>exact vP v n 0
 ·cases hi with
  | none=>rfl
  | some v=>exact vP v n n
theorem xM (i j : Nat) : Builtin.Slice.slicePlaces (i : Int) (j : Int) 1 = j - i:=by
 unfold Builtin.Slice.slicePlaces
 have h1 : (1 : Int) > 0:=by lia
 simp only [h1,if_true,Int.ediv_one]
 split <;> lia
theorem nK {v : Value} {o : Option Int} {Q : Option Int→Shared→Prop} (p : IsPart v o) (h : Q o s) : wpAny (model prog w) A (Builtin.Slice.slicePartIndex v) Q E s:=by
 cases p with
 | none=>exact slicePart_none h
 | int i t=>exact slicePart_int h
theorem sliceApplied_gen {sl : Addr} {vl vu : Value} {lo hi : Option Int} {n : Nat} {Q : Int × Int × Nat→Shared→Prop} (hs : s.heap.IsSliceOf sl vl vu .none) (pl : IsPart vl lo) (pu : IsPart vu hi)
  (h : Q (((sIx n 0 lo : Nat) : Int),1,sIx n n hi - sIx n 0 lo) s) : wpAny (model prog w) A (Builtin.Slice.sliceApplied (.ref sl) (pure (n : Int))) Q E s:=by
 obtain ⟨os,hos,hcs,hds⟩:=id hs
 unfold Builtin.Slice.sliceApplied Builtin.Slice.sliceFields
 refine wpAny_bind (wpAny_bind (wpAny_field hos hds (x:=vl) rfl (wpAny_bind (wpAny_field hos hds (x:=vu) rfl (wpAny_bind (wpAny_field hos hds (x:=.none) rfl (wpAny_pure ?_)))))))
 refine wpAny_bind (slicePart_none ?_)
 show wpAny _ _ (if ((1 : Int) == 0) = true then _ else _) _ _ s
 rw [if_neg (by decide)]
 refine wpAny_bind (nK pl (wpAny_bind (nK pu (wpAny_bind (wpAny_pure ?_)))))
 show wpAny _ _ (match Builtin.Slice.sliceAdjust lo hi 1 (n : Int) with | (lo,hi)=>pure (lo,(1 : Int),Builtin.Slice.slicePlaces lo hi 1)) _ _ s
 rw [xL lo hi n]
 show wpAny _ _ (pure (((sIx n 0 lo : Nat) : Int),(1 : Int),Builtin.Slice.slicePlaces ((sIx n 0 lo : Nat) : Int) ((sIx n n hi : Nat) : Int) 1)) _ _ s
 rw [xM]
 exact wpAny_pure h
theorem aBm (xs : Array Value) (i k : Nat) : ((List.range k).filterMap fun (m : Nat)=>xs[((i : Int) + (m : Int) * 1).toNat]?).toArray = ((xs.toList.drop i).take k).toArray:=by
 have e : (fun (m : Nat)=>xs[((i : Int) + (m : Int) * 1).toNat]?) = fun m=>xs[i + m]?:=by
  funext m
  have : ((i : Int) + (m : Int) * 1).toNat = i + m:=by lia
  rw [this]
 rw [e]
 have:=pick_run xs i k
 rw [List.filterMap_map] at this
 have e2 : ((fun x=>xs[x]?) ∘ fun x=>i + x) = fun m=>xs[i + m]?:=rfl
 rw [e2] at this
 rw [this]
theorem getItem_tuple_cut {t sl : Addr} {items : Array Value} {vl vu : Value} {lo hi : Option Int} {Q : Value→Shared→Prop} (ht : IsTup s.heap t items) (hs : s.heap.IsSliceOf sl vl vu .none) (pl : IsPart vl lo) (pu : IsPart vu hi)
  (hw : ¬ (sIx items.size 0 lo = 0∧sIx items.size items.size hi = items.size))
  (h : Q (.ref s.heap.objs.size) { s with heap:=s.heap.push { cls:=.type "tuple",data:=.seq ((items.toList.drop (sIx items.size 0 lo)).take (sIx items.size items.size hi - sIx items.size 0 lo)).toArray } })
  (hsz : items.size ≤ sizeLine) : wpAny (model prog w) A (getItem (.ref t) (.ref sl)) Q E s:=by
 have htake : sizeOk (.seq ((items.toList.drop (sIx items.size 0 lo)).take (sIx items.size items.size hi - sIx items.size 0 lo)).toArray):=by
  show ((items.toList.drop (sIx items.size 0 lo)).take (sIx items.size items.size hi - sIx items.size 0 lo)).toArray.size ≤ sizeLine
  rw [List.size_toArray,List.length_take,List.length_drop,Array.length_toList]
  lia
 have hj : sIx items.size items.size hi ≤ items.size:=aDF _ _ (Nat.le_refl _) hi
 obtain ⟨os,hos,hcs,hds⟩:=id hs
 have hTs : s.TypeIs (.ref sl) "slice" := ⟨os,hos,hcs⟩
 unfold getItem
 try with_reducible refine wpAny_holding ?_
 first | refine wpAny_bind (wpAny_pure ?_) | skip
 refine wpAny_bind (wpAny_sequenceKey ht.typeIs (by decide) ?_)
 refine wpAny_bind (wpAny_callSpecial?_slot (name:=Str.ofString "__getitem__") ht.typeIs PyProof.Rows.slot_tuple_getitem
  (wpAny_call_entry PyProof.Rows.slot_tuple_getitem ht.typeIs entry_tuple_getitem ?_ (args_tuple_getitem _ _)))
 show wpAny _ _ (Builtin.Tuple.tupleItemsOf (.ref t) >>= _) _ _ s
 refine wpAny_bind (tupleItemsOf_ ht ?_)
 refine wpAny_bind (wpAny_typeOf hTs ?_)
 rw [if_pos (by decide)]
 refine wpAny_bind (sliceApplied_gen hs pl pu ?_)
 have hno : ¬ ((((sIx items.size 0 lo : Nat) : Int) == 0 && (1 : Int) == 1 && (sIx items.size items.size hi - sIx items.size 0 lo) == items.size) = true):=by
  intro q
  rw [Bool.and_eq_true,Bool.and_eq_true] at q
  have q1 : ((sIx items.size 0 lo : Nat) : Int) = 0:=eq_of_beq q.1.1
  have q2 : sIx items.size items.size hi - sIx items.size 0 lo = items.size:=eq_of_beq q.2
  exact hw ⟨by lia,by lia⟩
 show wpAny _ _ (if (((sIx items.size 0 lo : Nat) : Int) == 0 && (1 : Int) == 1 && (sIx items.size items.size hi - sIx items.size 0 lo) == items.size) = true then _ else _) _ _ s
 rw [if_neg hno,aBm]
 first
  | exact wpAny_bind (m:=Builtin.Tuple.tupleExact _) (wpAny_newObj_type (wpAny_pure ⟨_,rfl,wpAny_pure h⟩) htake)
  | exact wpAny_bind (m:=Builtin.Tuple.tupleExact _) (wpAny_newObj_type (wpAny_bind (wpAny_pure (wpAny_pure ⟨_,rfl,wpAny_pure h⟩))) htake)
  | exact wpAny_bind (wpAny_bind (m:=Builtin.Tuple.tupleExact _) (wpAny_newObj_type (wpAny_pure (wpAny_pure ⟨_,rfl,wpAny_pure h⟩)) htake))
  | exact wpAny_bind (wpAny_bind (m:=Builtin.Tuple.tupleExact _) (wpAny_newObj_type (wpAny_pure ⟨_,rfl,wpAny_pure h⟩) htake))
end
end HT
namespace L2
open PySem PySem.Spec PyProof.Rows
abbrev TO:=St→Hp→(Option Int→Hp→Prop)→Prop
def PO (X : Cx) (e : Option Expr) (t : TO) : Prop :=
 ∀ (pins : List (Addr × Obj)) (s : Shared) (σ : St) (H : Hp) (Q : Option Int→Hp→Prop),Inv X pins σ H s→t σ H Q →
  wpAny (model X.prog X.w) X.A (evalPart e X.env) (fun u s'=>∃ o H',Inv X pins σ H' s'∧IsPart u o∧Q o H') X.xe s
def aCw : TO:=fun _ H Q=>Q none H
def aEq (t : TE) : TO:=fun σ H Q=>t σ H fun x H1=>∃ i,x = .int i∧Q (some i) H1
theorem xN {ns : List Int} : ∀ {us : List Value},Vals (ns.map V.int) us→IntsAre us ns:=by
 induction ns with
 | nil=>intro us r; rw [List.map_nil] at r; cases r; exact .nil
 | cons n ns ih =>
  intro us r
  rw [List.map_cons] at r
  cases r with
  | cons r1 r2 =>
   obtain ⟨t,e⟩:=r1
   subst e
   exact .cons n t (ih r2)
section
variable {X : Cx} {e : Expr} {te : TE} {lo hi : Option Expr} {tl th : TO} {pos p2 : Pos}
theorem gU : PO X none aCw:=by
 intro pins s σ H Q I h
 rw [evalPart_none]
 exact wpAny_pure ⟨none,H,I,.none,h⟩
theorem gW (h : PE X e te) : PO X (some e) (aEq te):=by
 intro pins s σ H Q I hw
 rw [evalPart_some]
 refine thn (h pins s σ H _ I hw) fun u s1 ⟨x,H1,I1,r1,q1⟩=>?_
 obtain ⟨i,rfl,q⟩:=q1
 obtain ⟨t,rfl⟩:=r1
 exact ⟨some i,H1,I1,.int i t,q⟩
def SlR (X : Cx) (r : V→Option Int→Option Int→Hp→VK→Prop) : Prop :=
 ∀ (pins : List (Addr × Obj)) (s : Shared) (σ : St) (H : Hp) (x : V) (v vl vu : Value) (lo hi : Option Int) (sl : Addr) (Q : VK),Inv X pins σ H s→RelV x v→s.heap.IsSliceOf sl vl vu .none→IsPart vl lo→IsPart vu hi→r x lo hi H Q →
  ∃ T id,typeLookup (.type T) "__getitem__" = pure (some (.builtin id))∧s.TypeIs v T∧wpAny (model X.prog X.w) X.A (getItem v (.ref sl)) (EP X pins σ Q) X.xe s
def tSl (r : V→Option Int→Option Int→Hp→VK→Prop) (te : TE) (tl th : TO) : TE:=fun σ H Q=>te σ H fun x H1=>tl σ H1 fun l H2=>th σ H2 fun u H3=>r x l u H3 Q
theorem fR {r : V→Option Int→Option Int→Hp→VK→Prop} (hr : SlR X r) (he : PE X e te) (hl : PO X lo tl) (hu : PO X hi th) : PE X (.Subscript e (.Slice lo hi none p2) pos) (tSl r te tl th):=by
 intro pins s σ H Q I h
 refine Subscript_ (thn (he pins s σ H _ I h) fun v s1 ⟨x,H1,I1,r1,q1⟩=>?_)
 refine wpAny_Slice (thn (hl pins s1 σ H1 _ I1 q1) fun vl s2 ⟨l,H2,I2,pl,q2⟩=>thn (hu pins s2 σ H2 _ I2 q2) fun vu s3 ⟨u,H3,I3,pu,q3⟩=>?_)
 rw [evalPart_none]
 refine wpAny_pure ?_
 have I4 : Inv X pins σ H3 { s3 with heap:=s3.heap.push { cls:=.type "slice",data:=.fields #[vl,vu,.none] } }:=I3.kept (t':=s3.toks) fun b ob q=>Heap.get?_push_of_some _ q
 obtain ⟨T,id,hT,ht,hg⟩:=hr pins { s3 with heap:=s3.heap.push { cls:=.type "slice",data:=.fields #[vl,vu,.none] } } σ H3 x v vl vu l u s3.heap.objs.size Q I4 r1 (Heap.IsSliceOf.new ..) pl pu q3
 show wpAny (model X.prog X.w) X.A (subscriptTail e (.Slice lo hi none p2) v (.ref s3.heap.objs.size)) (EP X pins σ Q) X.xe { s3 with heap:=s3.heap.push { cls:=.type "slice",data:=.fields #[vl,vu,.none] } }
 exact tail_any (ops:=[.ref s3.heap.objs.size,v]) ht hT hg (by with_unfolding_all rfl)
def cutV (xs : List V) (lo hi : Option Int) : List V:=(xs.drop (HT.sIx xs.length 0 lo)).take (HT.sIx xs.length xs.length hi - HT.sIx xs.length 0 lo)
theorem mB (xs : List V) (lo hi : Option Int) : (cutV xs lo hi).length ≤ xs.length:=by
 unfold cutV
 rw [List.length_take,List.length_drop]
 lia
def rSlT (K : PySem.W.Frag) : V→Option Int→Option Int→Hp→VK→Prop:=fun x lo hi H Q=>∃ a xs,x = .ref a∧SqT K H a xs ∧
 ¬ (HT.sIx xs.length 0 lo = 0∧HT.sIx xs.length xs.length hi = xs.length)∧∀ p,H p = none→Q (.ref p) (upd H p (.tup (cutV xs lo hi)))
theorem aDG : SlR X (rSlT X.K):=by
 intro pins s σ H x v vl vu lo hi sl Q I rx hs pl pu h
 obtain ⟨a,xs,rfl,hx,hw,q⟩:=h
 cases rx
 obtain ⟨its,r,ht,hz⟩:=I.tuple hx
 have hlen : its.toArray.size = xs.length:=by rw [List.size_toArray]; exact r.length.symm
 refine ⟨"tuple",_,PyProof.Rows.slot_tuple_getitem.lookup,ht.typeIs,?_⟩
 refine HT.getItem_tuple_cut ht hs pl pu (by rw [hlen]; exact hw) ?_ (by rw [hlen]; exact hz)
 rw [hlen]
 refine ⟨.ref s.heap.objs.size,_,I.laid (t':=s.toks) (o:=.tup (cutV xs lo hi)) (fun b ob q=>Heap.get?_push_of_some _ q) (Nat.le_refl _) ?_,rfl,q _ (I.hok.fresh (Nat.le_refl _))⟩
 exact ⟨Nat.le_trans (mB xs lo hi) hz,_,(r.drop (HT.sIx xs.length 0 lo)).take (HT.sIx xs.length xs.length hi - HT.sIx xs.length 0 lo),fY.new _ _⟩
theorem Vals.nil_iff {xs : List V} {us : List Value} (r : Vals xs us) : us = []↔xs = []:=by
 cases r with
 | nil=>simp
 | cons _ _=>simp
end
end L2
namespace L2
open PySem PySem.Spec PyProof.Rows
def ixN (n : Nat) (i : Int) : Option Nat:=if 0 ≤ i then (if i < n then some i.toNat else none) else if -(n : Int) ≤ i then some (i + n).toNat else none
def atI {α : Type} (xs : List α) (i : Int) : Option α:=(ixN xs.length i).bind fun j=>xs[j]?
theorem lF {n : Nat} {i : Int} {j : Nat} (h : ixN n i = some j) : seqIndex? i n = some j∧j < n∧-(n : Int) ≤ i∧i < n:=by
 unfold ixN at h
 by_cases h0 : 0 ≤ i
 ·rw [if_pos h0] at h
  by_cases h1 : i < n
  ·rw [if_pos h1] at h
   have e : i.toNat = j:=Option.some.inj h
   exact ⟨by rw [seqIndex_of h0 h1,e],by lia,by lia,h1⟩
  ·rw [if_neg h1] at h; cases h
 ·rw [if_neg h0] at h
  by_cases h1 : -(n : Int) ≤ i
  ·rw [if_pos h1] at h
   have e : (i + n).toNat = j:=Option.some.inj h
   exact ⟨by rw [seqIndex_neg (by lia) h1,e],by lia,h1,by lia⟩
  ·rw [if_neg h1] at h; cases h
theorem vQ {α : Type} {xs : List α} {i : Int} {v : α} (h : atI xs i = some v) : ∃ j,seqIndex? i xs.length = some j∧xs[j]? = some v∧j < xs.length∧-(xs.length : Int) ≤ i∧i < xs.length:=by
 unfold atI at h
 cases e : ixN xs.length i with
 | none=>rw [e] at h; cases h
 | some j =>
  rw [e] at h
  obtain ⟨h1,h2,h3,h4⟩:=lF e
  exact ⟨j,h1,h,h2,h3,h4⟩
theorem aP {α : Type} {xs : List α} {j : Nat} {v : α} (h : xs[j]? = some v) : atI xs (j : Int) = some v:=by
 have hj : j < xs.length:=(List.getElem?_eq_some_iff.mp h).1
 have e : ixN xs.length (j : Int) = some j:=by
  unfold ixN
  rw [if_pos (by lia),if_pos (by lia)]; simp
 unfold atI; rw [e]; exact h
theorem aBn {α : Type} (xs : List α) (v : α) : atI (xs ++ [v]) (-1) = some v:=by
 have hl : (xs ++ [v]).length = xs.length + 1:=by simp
 have e : ixN (xs ++ [v]).length (-1) = some xs.length:=by
  unfold ixN
  rw [hl,if_neg (by decide),if_pos (by lia)]
  congr 1
  lia
 unfold atI
 rw [e]
 show (xs ++ [v])[xs.length]? = some v
 simp
def aCx (b : Expr) : Prop:=∀ o i,subscripted b false o i = operate [o,i] (getItem o i)
def IxR (X : Cx) (r : R2) : Prop :=
 ∀ (value slice : Expr) (pins : List (Addr × Obj)) (s : Shared) (σ : St) (H : Hp) (x y : V) (v u : Value) (Q : VK),Inv X pins σ H s→RelV x v→RelV y u→r x y H Q →
  subscripted slice false v u = operate [v,u] (getItem v u)→wpAny (model X.prog X.w) X.A (subscriptTail value slice v u) (EP X pins σ Q) X.xe s
def MtR (X : Cx) (id : String) (r : V→List V→Hp→VK→Prop) : Prop :=
 ∀ (pins : List (Addr × Obj)) (s : Shared) (σ : St) (H : Hp) (x : V) (xs : List V) (v : Value) (us : List Value) (Q : VK),Inv X pins σ H s→RelV x v→Vals xs us→r x xs H Q →
  wpAny (model X.prog X.w) X.A (call (.builtin id) (v :: us)) (EP X pins σ Q) X.xe s
section
variable {X : Cx} {a b : Expr} {ta tb : TE} {pos : Pos}
theorem aX {r : R2} (hr : IxR X r) (ha : PE X a ta) (hb : PE X b tb) (hs : aCx b) : PE X (.Subscript a b pos) (tOp r ta tb):=by
 intro pins s σ H Q I h
 exact Subscript_ (binT ha hb I h fun v u s2 x y H2 I2 rx ry q=>hr a b pins s2 σ H2 x y v u Q I2 rx ry q (hs _ _))
def rIxL (K : PySem.W.Frag) : R2:=fun x y H Q=>∃ p xs i v,x = .ref p∧y = .int i∧SqL K H p xs∧atI xs i = some v∧Q v H
def rIxT (K : PySem.W.Frag) : R2:=fun x y H Q=>∃ p xs i v,x = .ref p∧y = .int i∧SqT K H p xs∧atI xs i = some v∧Q v H
theorem bB : IxR X (rIxL X.K):=by
 intro value slice pins s σ H x y v u Q I rx ry h hs
 obtain ⟨p,xs,i,z,rfl,rfl,hq,he,q⟩:=h
 cases rx
 obtain ⟨t,rfl⟩:=ry
 obtain ⟨its,r,pl,hz⟩:=I.list hq
 obtain ⟨j,h1,h2,h3,h4,h5⟩:=vQ he
 obtain ⟨w,ew,rw'⟩:=r.get h2
 have hl:=r.length
 have hn:=nG
 have fin : EP X pins σ Q w s:=⟨z,H,I,rw',q⟩
 by_cases h0 : 0 ≤ i
 ·have hj : i.toNat = j:=by
   rw [seqIndex_of h0 h5] at h1
   exact Option.some.inj h1
  exact item_listR pl.isList h0 (by lia) (by rw [hj]; simpa using ew) fin hs
 ·have hj : (i + (its.toArray.size : Int)).toNat = j:=by
   rw [seqIndex_neg (by lia) h4] at h1
   rw [List.size_toArray,← hl]
   exact Option.some.inj h1
  exact subscriptTail_builtinR (x:=w) pl.isList.typeIs slot_list_getitem.lookup
   (wpAny_getItem_list_neg (Q:=fun r s'=>r = w∧EP X pins σ Q r s') pl.isList (by lia) (by rw [List.size_toArray] <;> lia) (by lia) (by rw [hj]; simpa using ew) ⟨rfl,fin⟩) hs
theorem cD : IxR X (rIxT X.K):=by
 intro value slice pins s σ H x y v u Q I rx ry h hs
 obtain ⟨p,xs,i,z,rfl,rfl,hq,he,q⟩:=h
 cases rx
 obtain ⟨t,rfl⟩:=ry
 obtain ⟨its,r,pl,hz⟩:=I.tuple hq
 obtain ⟨j,h1,h2,h3,h4,h5⟩:=vQ he
 obtain ⟨w,ew,rw'⟩:=r.get h2
 have hl:=r.length
 have hn:=nG
 have fin : EP X pins σ Q w s:=⟨z,H,I,rw',q⟩
 exact subscriptTail_builtinR (x:=w) pl.typeIs slot_tuple_getitem.lookup
  (getItem_tuple (j:=j) (Q:=fun r s'=>r = w∧EP X pins σ Q r s') pl (by lia) (by lia) (by rw [List.size_toArray,← hl]; exact h1) (by simpa using ew) ⟨rfl,fin⟩) hs
theorem xO (its : List Value) (n j : Nat) (u : Value) : Obj.mapSeq (·.setIfInBounds j u) { cls:=.type "list",data:=.seq its.toArray n } = { cls:=.type "list",data:=.seq (its.set j u).toArray n }:=by
 simp [Obj.mapSeq]
theorem Inv.lst {pins : List (Addr × Obj)} {σ : St} {H : Hp} {s : Shared} {p : Addr} {xs : List V} (I : Inv X pins σ H s) (h : H p = some (.lst xs)) :
  ∃ (its : List Value) (n : Nat),Vals xs its∧s.heap.get? p = some { cls:=.type "list",data:=.seq its.toArray n }∧xs.length ≤ sizeLine:=by
 obtain ⟨z,its,n,r,e⟩:=I.hok p _ h
 exact ⟨its,n,r,e,z⟩
theorem Inv.lstUpd {pins : List (Addr × Obj)} {σ : St} {H : Hp} {s : Shared} {p : Addr} {xs ys : List V} {its its' : List Value} {n n' : Nat} {f : Obj→Obj} (I : Inv X pins σ H s) (h : H p = some (.lst xs))
  (ho : s.heap.get? p = some { cls:=.type "list",data:=.seq its.toArray n }) (hf : f { cls:=.type "list",data:=.seq its.toArray n } = { cls:=.type "list",data:=.seq its'.toArray n' }) (r : Vals ys its') (hz : ys.length ≤ sizeLine) (t : Nat) :
  Inv X pins σ (upd H p (.lst ys)) { s with heap:=s.heap.update p f,toks:=t }:=by
 have e : (s.heap.update p f).get? p = some { cls:=.type "list",data:=.seq its'.toArray n' }:=by
  rw [Heap.get?_update_self f ho (by rw [hf] <;> rfl),hf]
 refine I.write (x:=p) (e:=p) (by rw [h]; trivial) (.inl rfl) (fun b u hb q=>(Heap.get?_update_other _ _ (Ne.symm hb)).trans q) ⟨_,e⟩ ?_
 exact ⟨hz,its',n',r,e⟩
def aEr : V→V→V→Hp→(Hp→Prop)→Prop:=fun o i v H Q=>∃ p xs k j,o = .ref p∧i = .int k∧H p = some (.lst xs)∧ixN xs.length k = some j∧Q (upd H p (.lst (xs.set j v)))
theorem eY : PSet X aEr:=by
 intro pins s σ H o i v ov iv u Q I ro ri rv h
 obtain ⟨p,xs,k,j,rfl,rfl,hp,hj,q⟩:=h
 cases ro
 obtain ⟨t,rfl⟩:=ri
 obtain ⟨its,n,r,ho,hz⟩:=I.lst hp
 obtain ⟨h1,h2,h3,h4⟩:=lF hj
 have hl:=r.length
 have hn:=nG
 have I' : Inv X pins σ (upd H p (.lst (xs.set j v))) { s with heap:=s.heap.update p (Obj.mapSeq (·.setIfInBounds j u)) } :=
  I.lstUpd hp ho (xO its n j u) (r.set rv j) (by rw [List.length_set]; exact hz) s.toks
 by_cases h0 : 0 ≤ k
 ·have hk : k.toNat = j:=by
   rw [seqIndex_of h0 h4] at h1
   exact Option.some.inj h1
  exact PySem.W.ki_setAt ho h0 (by lia) (by rw [List.size_toArray,← hl]; exact h4) (by rw [hk]; exact ⟨_,I',q⟩)
 ·have hk : (k + (its.toArray.size : Int)).toNat = j:=by
   rw [seqIndex_neg (by lia) h3] at h1
   rw [List.size_toArray,← hl]
   exact Option.some.inj h1
  exact PySem.W.ki_setBack ho (by lia) (by rw [List.size_toArray,← hl]; exact h3) (by lia) (by rw [hk]; exact ⟨_,I',q⟩)
theorem sA (lo hi : Option Int) (n : Nat) : (sliceBounds lo hi none n).1 = ((HT.sIx n 0 lo : Nat) : Int)∧(sliceBounds lo hi none n).2.1 = ((HT.sIx n n hi : Nat) : Int)∧(sliceBounds lo hi none n).2.2 = 1:=by
 refine ⟨?_,?_,rfl⟩
 ·cases lo with
  | none=>simp [sliceBounds,HT.sIx]
  | some i =>
   simp only [sliceBounds,HT.sIx,Option.getD_none,show (1 : Int) > 0 by decide,if_true]
   by_cases h : i < 0
   ·simp only [h,if_true] <;> lia
   ·simp only [h,if_false] <;> lia
 ·cases hi with
  | none=>simp [sliceBounds,HT.sIx]
  | some i =>
   simp only [sliceBounds,HT.sIx,Option.getD_none,show (1 : Int) > 0 by decide,if_true]
   by_cases h : i < 0
   ·simp only [h,if_true] <;> lia
   ·simp only [h,if_false] <;> lia
theorem rB (its : List Value) (lo hi : Option Int) : slicePick its.toArray lo hi none = ((its.drop (HT.sIx its.length 0 lo)).take (HT.sIx its.length its.length hi - HT.sIx its.length 0 lo)).toArray:=by
 obtain ⟨h1,h2,h3⟩:=sA lo hi its.toArray.size
 unfold slicePick
 rw [h1,h2,h3]
 simp only [sliceRange_one,pick_run,List.size_toArray] <;> rfl
def rSlL (K : PySem.W.Frag) : V→Option Int→Option Int→Hp→VK→Prop:=fun x lo hi H Q=>∃ a xs,x = .ref a∧SqL K H a xs∧∀ p,H p = none→Q (.ref p) (upd H p (.lst (cutV xs lo hi)))
theorem vR : SlR X (rSlL X.K):=by
 intro pins s σ H x v vl vu lo hi sl Q I rx hs pl pu h
 obtain ⟨a,xs,rfl,hx,q⟩:=h
 cases rx
 obtain ⟨its,r,ht,hz⟩:=I.list hx
 have hlen:=r.length
 refine ⟨"list",_,slot_list_getitem.lookup,ht.isList.typeIs,?_⟩
 refine wpAny_getItem_list_slice ht.isList hs pl pu .none (by simp) ?_ (by rw [List.size_toArray] <;> lia)
 rw [rB,← hlen]
 refine ⟨.ref s.heap.objs.size,_,I.laid (t':=s.toks) (o:=.lst (cutV xs lo hi)) (fun b ob q=>Heap.get?_push_of_some _ q) (Nat.le_refl _) ?_,rfl,q _ (I.hok.fresh (Nat.le_refl _))⟩
 exact ⟨Nat.le_trans (mB xs lo hi) hz,_,0,(r.drop (HT.sIx xs.length 0 lo)).take (HT.sIx xs.length xs.length hi - HT.sIx xs.length 0 lo),Heap.get?_push_size _ rfl⟩
def cS : V→Bool
 | .non=>true
 | .bl _=>true
 | .int _=>true
 | .str _=>true
 | _=>false
def eqV : V→V→Bool
 | .non,.non=>true
 | .bl a,.bl b=>a == b
 | .bl a,.int b=>(if a then 1 else 0) == b
 | .int a,.bl b=>a == (if b then 1 else 0)
 | .int a,.int b=>a == b
 | .str a,.str b=>a == b
 | _,_=>false
theorem nM {A : Around} {s : Shared} {y x : V} {u v : Value} (ry : RelV y u) (rx : RelV x v) (fy : cS y = true) (fx : cS x = true) : SeqAt.EqAt A s u v (eqV y x):=by
 cases y with
 | non =>
  cases ry
  cases x with
  | non=>cases rx; exact SeqAt.EqAt.same _
  | bl b=>cases rx; exact SeqAt.EqAt.none_bool b
  | int b=>obtain ⟨t,rfl⟩:=rx; exact SeqAt.EqAt.none_int b t
  | str b=>obtain ⟨t,rfl⟩:=rx; exact SeqAt.EqAt.none_str b t
  | _=>exact absurd (show false = true from fx) Bool.false_ne_true
 | bl a =>
  cases ry
  cases x with
  | non=>cases rx; exact SeqAt.EqAt.bool_none a
  | bl b=>cases rx; exact SeqAt.EqAt.bool_bool a b
  | int b=>obtain ⟨t,rfl⟩:=rx; exact SeqAt.EqAt.bool_int a b t
  | str b=>obtain ⟨t,rfl⟩:=rx; exact SeqAt.EqAt.bool_str a b t
  | _=>exact absurd (show false = true from fx) Bool.false_ne_true
 | int a =>
  obtain ⟨t',rfl⟩:=ry
  cases x with
  | non=>cases rx; exact SeqAt.EqAt.int_none a t'
  | bl b=>cases rx; exact SeqAt.EqAt.int_bool a t' b
  | int b=>obtain ⟨t,rfl⟩:=rx; exact SeqAt.EqAt.int_int a t' b t
  | str b=>obtain ⟨t,rfl⟩:=rx; exact SeqAt.EqAt.int_str a t' b t
  | _=>exact absurd (show false = true from fx) Bool.false_ne_true
 | str a =>
  obtain ⟨t',rfl⟩:=ry
  cases x with
  | non=>cases rx; exact SeqAt.EqAt.str_none a t'
  | bl b=>cases rx; exact SeqAt.EqAt.str_bool a t' b
  | int b=>obtain ⟨t,rfl⟩:=rx; exact SeqAt.EqAt.str_int a t' b t
  | str b=>obtain ⟨t,rfl⟩:=rx; exact SeqAt.EqAt.str_str a t' b t
  | _=>exact absurd (show false = true from fx) Bool.false_ne_true
 | _=>exact absurd (show false = true from fy) Bool.false_ne_true
def eqU (x : V) (u : Value) : Bool:=match u with
 | .none=>eqV .non x
 | .bool b=>eqV (.bl b) x
 | .int i _=>eqV (.int i) x
 | .str z _=>eqV (.str z) x
 | _=>false
theorem zV {x y : V} {u : Value} (r : RelV y u) (f : cS y = true) : eqU x u = eqV y x:=by
 cases y with
 | non=>cases r; rfl
 | bl b=>cases r; rfl
 | int i=>obtain ⟨t,rfl⟩:=r; rfl
 | str z=>obtain ⟨t,rfl⟩:=r; rfl
 | _=>exact absurd (show false = true from f) Bool.false_ne_true
theorem gX {x : V} : ∀ {xs : List V} {us : List Value},Vals xs us→xs.all cS = true→us.any (eqU x) = xs.any fun y=>eqV y x
 | _,_,.nil,_=>rfl
 | y :: xs,u :: us,.cons r t,f=>by
  rw [List.all_cons,Bool.and_eq_true] at f
  rw [List.any_cons,List.any_cons,zV r f.1,gX t f.2]
theorem fT {A : Around} {s : Shared} {x : V} {v : Value} (rx : RelV x v) (fx : cS x = true) : ∀ {xs : List V} {us : List Value},Vals xs us→xs.all cS = true→∀ u∈us,SeqAt.EqAt A s u v (eqU x u)
 | _,_,.nil,_=>fun u hu=>by cases hu
 | y :: xs,u :: us,.cons r t,f=>fun u' hu=>by
  rw [List.all_cons,Bool.and_eq_true] at f
  rcases List.mem_cons.mp hu with rfl | hu
  ·rw [zV r f.1]; exact nM r rx f.1 fx
  ·exact fT rx fx t f.2 u' hu
def inV (x : V) (xs : List V) : Bool:=xs.any fun y=>eqV y x
def rIn (K : PySem.W.Frag) (neg : Bool) : R2:=fun x y H Q=>∃ p xs,y = .ref p∧(SqL K H p xs∨SqT K H p xs)∧cS x = true∧xs.all cS = true∧Q (.bl (if neg then !inV x xs else inV x xs)) H
theorem kB : OpR X (compareOp .In) (rIn X.K false):=by
 intro pins s σ H x y v u Q I rx ry h
 obtain ⟨p,xs,rfl,hq,fx,fs,q⟩:=h
 cases ry
 rcases hq with hq | hq
 ·obtain ⟨its,r,pl,hz⟩:=I.list hq
  refine SeqAt.in_listAt (eqU x) pl.isList (fun w hw=>fT rx fx r fs w (by simpa using hw)) ⟨.bl _,H,I,rfl,?_⟩
  rw [show its.toArray.any (eqU x) = its.any (eqU x) by simp,gX r fs]
  exact q
 ·obtain ⟨its,r,pl,hz⟩:=I.tuple hq
  refine SeqAt.in_tupleAt (eqU x) pl (fun w hw=>fT rx fx r fs w (by simpa using hw)) ⟨.bl _,H,I,rfl,?_⟩
  rw [show its.toArray.any (eqU x) = its.any (eqU x) by simp,gX r fs]
  exact q
theorem sB : OpR X (compareOp .NotIn) (rIn X.K true):=by
 intro pins s σ H x y v u Q I rx ry h
 obtain ⟨p,xs,rfl,hq,fx,fs,q⟩:=h
 cases ry
 rcases hq with hq | hq
 ·obtain ⟨its,r,pl,hz⟩:=I.list hq
  refine SeqAt.notIn_listAt (eqU x) pl.isList (fun w hw=>fT rx fx r fs w (by simpa using hw)) ⟨.bl _,H,I,rfl,?_⟩
  rw [show its.toArray.any (eqU x) = its.any (eqU x) by simp,gX r fs]
  exact q
 ·obtain ⟨its,r,pl,hz⟩:=I.tuple hq
  refine SeqAt.notIn_tupleAt (eqU x) pl (fun w hw=>fT rx fx r fs w (by simpa using hw)) ⟨.bl _,H,I,rfl,?_⟩
  rw [show its.toArray.any (eqU x) = its.any (eqU x) by simp,gX r fs]
  exact q
theorem aT : cI X (.builtin "len") (fun xs H Q=>∃ p ys,xs = [.ref p]∧(SqL X.K H p ys∨SqT X.K H p ys)∧Q (.int ys.length) H):=by
 intro pins s σ H xs us Q I r h
 obtain ⟨p,ys,rfl,hq,q⟩:=h
 obtain ⟨u,rfl,rx⟩:=rK r
 cases rx
 have hn:=nG
 rcases hq with hq | hq
 ·obtain ⟨its,r',pl,hz⟩:=I.list hq
  have hlen:=r'.length
  exact Calls.call_len_list pl.isList (by simp only [List.size_toArray] <;> lia) ⟨.int ys.length,H,I.tok _,⟨s.toks + 1,by rw [List.size_toArray,hlen]⟩,q⟩
 ·obtain ⟨its,r',pl,hz⟩:=I.tuple hq
  have hlen:=r'.length
  exact len_tuple pl (by simp only [List.size_toArray] <;> lia) ⟨.int ys.length,H,I.tok _,⟨s.toks + 1,by rw [List.size_toArray,hlen]⟩,q⟩
theorem kC : cI X (.type "list") (fun xs H Q=>∃ p ys,xs = [.ref p]∧(SqL X.K H p ys∨SqT X.K H p ys)∧∀ l,H l = none→Q (.ref l) (upd H l (.lst ys))):=by
 intro pins s σ H xs us Q I r h
 obtain ⟨p,ys,rfl,hq,q⟩:=h
 obtain ⟨u,rfl,rx⟩:=rK r
 cases rx
 have fin : ∀ (its : List Value),Vals ys its→ys.length ≤ sizeLine→∀ (h' : Heap) (c' : Nat),(∀ b o',s.heap.get? b = some o'→h'.get? b = some o') →
   h'.get? s.heap.objs.size = some { cls:=.type "list",dict:=none,data:=.seq its.toArray c',slots:=#[] }→EP X pins σ Q (.ref s.heap.objs.size) { s with heap:=h' }:=fun its r' hz h' c' kp e =>
  ⟨.ref s.heap.objs.size,_,I.laid (t':=s.toks) kp (Nat.le_refl _) (show bP X.prog X.w _ h' _ (.lst ys) from ⟨hz,its,c',r',e⟩),rfl,q _ (I.hok.fresh (Nat.le_refl _))⟩
 rcases hq with hq | hq
 ·obtain ⟨its,r',pl,hz⟩:=I.list hq
  have hlen:=r'.length
  obtain ⟨o,ho,hc,n,hd⟩:=pl.isList
  exact call_list_seq p (.inl rfl) ho hc hd (fun h' c' kp e=>fin its r' hz h' c' kp e) (by simp only [List.size_toArray] <;> lia)
 ·obtain ⟨its,r',pl,hz⟩:=I.tuple hq
  have hlen:=r'.length
  obtain ⟨o,ho,hc,n,hd⟩:=pl
  exact call_list_seq p (.inr rfl) ho hc hd (fun h' c' kp e=>fin its r' hz h' c' kp e) (by simp only [List.size_toArray] <;> lia)
theorem gA : cI X (.type "tuple") (fun xs H Q=>∃ p ys,xs = [.ref p]∧((SqL X.K H p ys∧∀ l,H l = none→Q (.ref l) (upd H l (.tup ys)))∨(SqT X.K H p ys∧Q (.ref p) H))):=by
 intro pins s σ H xs us Q I r h
 obtain ⟨p,ys,rfl,h⟩:=h
 obtain ⟨u,rfl,rx⟩:=rK r
 cases rx
 rcases h with ⟨hq,q⟩ | ⟨hq,q⟩
 ·obtain ⟨its,r',pl,hz⟩:=I.list hq
  have hlen:=r'.length
  refine call_tuple_list pl.isList (fun h' kp=>?_) (by simp only [List.size_toArray] <;> lia)
  have I1 : Inv X pins σ H { s with heap:=h' }:=I.kept (t':=s.toks) kp
  have I2 : Inv X pins σ (upd H h'.objs.size (.tup ys)) { s with heap:=h'.push { cls:=.type "tuple",data:=.seq its.toArray } } :=
   I1.laid (t':=s.toks) (fun b o e=>Heap.get?_push_of_some _ e) (Nat.le_refl _) (show bP X.prog X.w _ _ _ (.tup ys) from ⟨hz,its,r',fY.new _ _⟩)
  exact ⟨.ref h'.objs.size,_,I2,rfl,q _ (I1.hok.fresh (Nat.le_refl _))⟩
 ·obtain ⟨its,r',pl,hz⟩:=I.tuple hq
  exact call_tuple_same pl ⟨.ref p,H,I,rfl,q⟩
def tyV (K : PySem.W.Frag) (T : String) (x : V) (H : Hp) : Prop:=match x with
 | .str _=>T = "str"
 | .int _=>T = "int"
 | .ref p=>(T = "list" ∧ ∃ xs,SqL K H p xs)∨(T = "tuple" ∧ ∃ o,K.lookup p = some o∧o.cls = .type "tuple" ∧ o.dict = none) ∨
   (T = "dict" ∧ ((∃ kvs,H p = some (.dK kvs))∨∃ kvs,H p = some (.dT kvs)))∨(T = "set" ∧ ∃ S n,H p = some (.set S n))
 | _=>False
theorem aDH {pins : List (Addr × Obj)} {σ : St} {H : Hp} {s : Shared} {T : String} {x : V} {v : Value} (I : Inv X pins σ H s) (r : RelV x v) (ty : tyV X.K T x H) :
  s.TypeIs v T∧∀ a,v = .ref a→∃ ob,s.heap.get? a = some ob∧ob.dict = none:=by
 cases x with
 | str z =>
  obtain ⟨t,rfl⟩:=r
  cases (show T = "str" from ty)
  exact ⟨typeIs_str s z t,fun _ e=>nomatch e⟩
 | int i =>
  obtain ⟨t,rfl⟩:=r
  cases (show T = "int" from ty)
  exact ⟨typeIs_int s i t,fun _ e=>nomatch e⟩
 | ref p =>
  cases r
  rcases ty with ⟨rfl,xs,hq⟩ | ⟨rfl,o,hk,hc,hd⟩ | ⟨rfl,hk⟩ | ⟨rfl,S,n,hk⟩
  ·obtain ⟨its,_,pl,_⟩:=I.list hq
   refine ⟨pl.isList.typeIs,fun a e=>?_⟩
   cases e
   obtain ⟨o,n,e,c,hd,_⟩:=pl
   exact ⟨o,e,hd⟩
  ·refine ⟨⟨o,I.kIn p o hk,hc⟩,fun a e=>?_⟩
   cases e
   exact ⟨o,I.kIn _ o hk,hd⟩
  ·have z : ∃ o,s.heap.get? p = some o∧o.ExactDict:=by
    rcases hk with ⟨kvs,hk⟩ | ⟨kvs,hk⟩
    ·obtain ⟨_,_,_,_,o,_,_,e,ex,_⟩:=I.hok p _ hk
     exact ⟨o,e,ex⟩
    ·obtain ⟨_,_,_,_,o,_,_,e,ex,_⟩:=I.hok p _ hk
     exact ⟨o,e,ex⟩
   obtain ⟨o,e,ex⟩:=z
   refine ⟨⟨o,e,ex.1⟩,fun a e2=>?_⟩
   cases e2
   exact ⟨o,e,ex.2.1⟩
  ·obtain ⟨o,_,_,_,e,ex,_⟩:=I.hok p _ hk
   refine ⟨⟨o,e,ex.1⟩,fun a e2=>?_⟩
   cases e2
   exact ⟨o,e,ex.2.1⟩
 | _=>exact False.elim ty
def tBM (K : PySem.W.Frag) (T : String) (r : V→List V→Hp→VK→Prop) (to : TE) (t : TA) : TE:=fun σ H Q=>to σ H fun x H1=>tyV K T x H1∧t σ H1 fun xs H2=>r x xs H2 Q
variable {o e : Expr} {es : List Expr} {to : TE} {t : TA} {name : Str} {apos cpos : Pos} {T id : String} {r : V→List V→Hp→VK→Prop}
theorem eK (pa : PlainAttrs T) (slot : Slot T name id) (hty : typeOf (.builtin id) = pure (.type "method_descriptor")) (hm : MtR X id r) (ho : PE X o to) (ha : PA X (e :: es) t)
  (hbase : attributeBase o name X.env (eval o X.env) = eval o X.env:=by rfl)
  (hfew : ((backTo cpos (starEach (e :: es) X.env)).all (fun x=>!x.1) && (backToKw cpos (keywordEach [] X.env)).all (fun x=>x.1.isSome)
   && decide ((e :: es).length + ([] : List Keyword).length + (if ([] : List Keyword).isEmpty then 0 else 1) < 30)) = true:=by rfl)
  (hline : (apos.endLine == cpos.line) = true:=by rfl) (hs : starEach (e :: es) X.env = (false,eval e X.env) :: starEach es X.env:=by rfl) (hplain : (backTo cpos (starEach es X.env)).any (·.1) = false:=by rfl) :
  PE X (.Call (.Attribute o name apos) (e :: es) [] cpos) (tBM X.K T r to t):=by
 intro pins s σ H Q I h
 refine wpAny_Call_method_late hbase hfew hline rfl (thn (ho pins s σ H _ I h) fun v s1 ⟨x,H1,I1,r1,ty,q1⟩=>?_)
 obtain ⟨h1,h2⟩:=aDH I1 r1 ty
 refine ⟨T,id,pa,slot,hty,h1,h2,?_⟩
 have hA:=ha cpos pins s1 σ H1 _ I1 q1
 rw [hs] at hA ⊢
 refine Calls.callWith_builtin (by show (false || (backTo cpos (starEach es X.env)).any (·.1)) = false; rw [hplain] <;> rfl) (Calls.evalArgs_plain ?_)
 exact thn hA fun us s2 ⟨vs,H2,I2,r2,q2⟩=>hm pins s2 σ H2 x vs v us Q I2 r1 r2 q2
end
end L2
namespace L2
open PySem PySem.Spec PyProof.Rows
def MtM (X : Cx) (id : String) (r : V→List V→Hp→VK→Prop) : Prop :=
 ∀ (pins : List (Addr × Obj)) (s : Shared) (σ : St) (H : Hp) (x : V) (xs : List V) (v : Value) (us : List Value) (Q : VK),Inv X pins σ H s→RelV x v→Vals xs us→r x xs H Q →
  wpAny (model X.prog X.w) X.A (call (.builtin id) (v :: us)) (EP X pins σ Q) X.xe s
theorem Vals.one : ∀ {x : V} {us : List Value},Vals [x] us→∃ u,us = [u]∧RelV x u
 | _,_,.cons r .nil=>⟨_,rfl,r⟩
theorem Vals.two : ∀ {x y : V} {us : List Value},Vals [x,y] us→∃ u v,us = [u,v]∧RelV x u∧RelV y v
 | _,_,_,.cons r (.cons q .nil)=>⟨_,_,rfl,r,q⟩
theorem Vals.eraseIdx : ∀ {xs : List V} {us : List Value} (i : Nat),Vals xs us→Vals (xs.eraseIdx i) (us.eraseIdx i)
 | _,_,_,.nil=>.nil
 | _,_,0,.cons _ t=>t
 | _,_,i + 1,.cons r t=>.cons r (Vals.eraseIdx i t)
theorem Vals.rep {xs : List V} {us : List Value} (h : Vals xs us) : ∀ k : Nat,Vals (List.replicate k xs).flatten (List.replicate k us).flatten
 | 0=>.nil
 | k + 1=>by
  rw [List.replicate_succ,List.replicate_succ,List.flatten_cons,List.flatten_cons]
  exact Vals.append h (Vals.rep h k)
theorem qL {α : Type} : ∀ (l : List α) (i : Nat),(l.eraseIdx i).length ≤ l.length
 | [],_=>Nat.le_refl _
 | _ :: _,0=>Nat.le_succ _
 | _ :: r,i + 1=>Nat.succ_le_succ (qL r i)
theorem qM (its : List Value) : ∀ (k : Nat) (acc : List Value),
  List.foldl (fun x1 x2=>x1 ++ x2) acc.toArray (List.replicate k its.toArray) = (acc ++ (List.replicate k its).flatten).toArray
 | 0,acc=>by simp
 | k + 1,acc=>by
  have e : acc.toArray ++ its.toArray = (acc ++ its).toArray:=by simp
  have e2 : (acc ++ its) ++ (List.replicate k its).flatten = acc ++ (List.replicate (k + 1) its).flatten:=by
   rw [List.replicate_succ,List.flatten_cons,List.append_assoc]
  rw [← e2,← qM its k (acc ++ its),← e,List.replicate_succ,List.foldl_cons]
section
variable {X : Cx} {pins : List (Addr × Obj)} {σ : St} {H : Hp} {s : Shared} {l b : Addr} {xs ys zs : List V}
theorem Inv.lset {its its' : List Value} {n : Nat} {f : Array Value→Array Value} {t' : Nat} (I : Inv X pins σ H s) (hH : H l = some (.lst xs))
  (e : s.heap.get? l = some { cls:=.type "list",data:=.seq its.toArray n }) (hf : f its.toArray = its'.toArray) (hv : Vals ys its') (hz : ys.length ≤ sizeLine) :
  Inv X pins σ (upd H l (.lst ys)) { s with heap:=s.heap.update l (Obj.mapSeq f),toks:=t' }:=by
 have q:=PySem.IsL.update e f
 rw [hf] at q
 refine I.write (x:=l) (e:=l) (by rw [hH]; exact trivial) (.inl rfl) (fun b' u hb hu=>(Heap.get?_update_other s.heap (Obj.mapSeq f) (Ne.symm hb)).trans hu) ⟨_,q⟩ ?_
 exact ⟨hz,its',_,hv,q⟩
theorem Inv.lnew {its : List Value} {t' : Nat} (I : Inv X pins σ H s) (hv : Vals ys its) (hz : ys.length ≤ sizeLine) :
  Inv X pins σ (upd H s.heap.objs.size (.lst ys)) { s with heap:=s.heap.push { cls:=.type "list",data:=.seq its.toArray },toks:=t' } :=
 I.laid (fun _ _ q=>Heap.get?_push_of_some _ q) (Nat.le_refl _) ⟨hz,its,0,hv,Heap.get?_push_size _ rfl⟩
theorem Inv.fresh (I : Inv X pins σ H s) : H s.heap.objs.size = none:=I.hok.fresh (Nat.le_refl _)
theorem Inv.lstM (I : Inv X pins σ H s) (hH : H l = some (.lst xs)) : xs.length ≤ sizeLine∧∃ (its : List Value) (n : Nat),Vals xs its∧xs.length = its.length∧s.heap.get? l = some { cls:=.type "list",data:=.seq its.toArray n }:=by
 obtain ⟨z,its,n,r,e⟩:=I.hok l _ hH
 exact ⟨z,its,n,r,r.length,e⟩
theorem sC {n : Nat} (h : n ≤ sizeLine) : Builtin.List.listTooLong n = false:=by
 unfold Builtin.List.listTooLong
 exact decide_eq_false (by lia)
end
section
variable {X : Cx}
def aCy : V→List V→Hp→VK→Prop:=fun x vs H Q=>∃ l xs y,x = .ref l∧vs = [y]∧H l = some (.lst xs)∧xs.length < sizeLine∧Q .non (upd H l (.lst (xs ++ [y])))
theorem dJ : MtM X "list.append" aCy:=by
 intro pins s σ H x vs v us Q I rx rv h
 obtain ⟨l,xs,y,rfl,rfl,hH,hz,q⟩:=h
 cases rx
 obtain ⟨u,rfl,ru⟩:=rv.one
 obtain ⟨z,its,n,r,hl,e⟩:=I.lstM hH
 refine call_meets F.slot_list_append ⟨_,e,rfl⟩ F.entry_list_append (F.args_list_append_2 _ _) (PySem.list_append l its.toArray n u (by rw [List.size_toArray]; lia)) ⟨e,?_⟩
 refine ⟨.non,_,I.lset (its':=its ++ [u]) hH e (by simp) (r.append (.cons ru .nil)) ?_,rfl,q⟩
 rw [List.length_append,List.length_singleton]
 lia
def aCz : V→List V→Hp→VK→Prop:=fun x vs H Q=>∃ l b xs zs,x = .ref l∧vs = [.ref b]∧H l = some (.lst xs)∧H b = some (.lst zs)∧xs.length + zs.length ≤ sizeLine∧Q .non (upd H l (.lst (xs ++ zs)))
theorem kD : MtM X "list.extend" aCz:=by
 intro pins s σ H x vs v us Q I rx rv h
 obtain ⟨l,b,xs,zs,rfl,rfl,hH,hB,hz,q⟩:=h
 cases rx
 obtain ⟨u,rfl,ru⟩:=rv.one
 cases ru
 obtain ⟨z,its,n,r,hl,e⟩:=I.lstM hH
 obtain ⟨z2,its2,n2,r2,hl2,e2⟩:=I.lstM hB
 have hsz : its.toArray.size + its2.toArray.size ≤ sizeLine:=by rw [List.size_toArray,List.size_toArray]; lia
 have hlong : ¬ (!its.toArray.isEmpty && Builtin.List.listTooLong (its.toArray.size + its2.toArray.size)) = true:=by
  rw [sC hsz,Bool.and_false]
  exact Bool.false_ne_true
 refine call_meets F.slot_list_extend ⟨_,e,rfl⟩ F.entry_list_extend (F.args_list_extend_2 _ _)
  (AutoSeq1.list_extend_list_list_0 l its.toArray n b its2.toArray n2 hlong (by rw [List.size_toArray]; lia) (by lia)) ⟨e,e2,?_⟩
 refine ⟨.non,_,I.lset (its':=its ++ its2) hH e (by simp) (r.append r2) ?_,rfl,q⟩
 rw [List.length_append]
 lia
def zW : V→List V→Hp→VK→Prop:=fun x vs H Q=>∃ l xs i k y,x = .ref l∧vs = [.int i]∧H l = some (.lst xs)∧-(2 ^ 63) ≤ i∧i < 2 ^ 63∧seqIndex? i xs.length = some k∧xs[k]? = some y∧Q y (upd H l (.lst (xs.eraseIdx k)))
theorem sD : MtM X "list.pop" zW:=by
 intro pins s σ H x vs v us Q I rx rv h
 obtain ⟨l,xs,i,k,y,rfl,rfl,hH,h1,h2,hk,hy,q⟩:=h
 cases rx
 obtain ⟨u,rfl,ru⟩:=rv.one
 obtain ⟨t,rfl⟩:=ru
 obtain ⟨z,its,n,r,hl,e⟩:=I.lstM hH
 obtain ⟨w,hw,rw'⟩:=r.get hy
 refine call_meets F.slot_list_pop ⟨_,e,rfl⟩ F.entry_list_pop (F.args_list_pop_2 _ _)
  (MeetsSeq.list_pop_at l its.toArray n i t k w (fitsIndex_both h1 h2) (by rw [List.size_toArray,← hl]; exact hk) (by rw [← Array.getElem?_toList]; exact hw) (by rw [List.size_toArray]; lia)) ⟨e,?_⟩
 refine ⟨y,_,I.lset (its':=its.eraseIdx k) hH e ?_ (r.eraseIdx k) ?_,rw',q⟩
 ·show its.toArray.eraseIdxIfInBounds k = (its.eraseIdx k).toArray
  rw [List.eraseIdxIfInBounds_toArray]
 ·have:=qL xs k
  lia
def rCat : R2:=fun x y H Q=>∃ l b xs zs,x = .ref l∧y = .ref b∧H l = some (.lst xs)∧H b = some (.lst zs)∧xs.length + zs.length ≤ sizeLine∧∀ p,H p = none→Q (.ref p) (upd H p (.lst (xs ++ zs)))
theorem aDI : OpR X (binaryOp .Add) rCat:=by
 intro pins s σ H x y v u Q I rx ry h
 obtain ⟨l,b,xs,zs,rfl,rfl,hH,hB,hz,q⟩:=h
 cases rx
 cases ry
 obtain ⟨z,its,n,r,hl,e⟩:=I.lstM hH
 obtain ⟨z2,its2,n2,r2,hl2,e2⟩:=I.lstM hB
 refine PySem.P.add_list e e2 ?_ (by rw [List.size_toArray,List.size_toArray]; lia)
 have ea : its.toArray ++ its2.toArray = (its ++ its2).toArray:=by simp
 rw [ea]
 exact ⟨.ref _,_,I.lnew (t':=s.toks) (r.append r2) (by rw [List.length_append]; lia),rfl,q _ I.fresh⟩
def rRep : R2:=fun x y H Q=>∃ l k xs,x = .ref l∧y = .int k∧H l = some (.lst xs)∧-(2 ^ 63) ≤ k∧k < 2 ^ 63∧xs.length * k.toNat ≤ sizeLine ∧
 ∀ p,H p = none→Q (.ref p) (upd H p (.lst (List.replicate k.toNat xs).flatten))
theorem aCA {α : Type} (xs : List α) (k : Nat) : (List.replicate k xs).flatten.length = k * xs.length:=by
 induction k with
 | zero=>simp
 | succ k ih=>rw [List.replicate_succ,List.flatten_cons,List.length_append,ih,Nat.succ_mul,Nat.add_comm]
theorem zX : OpR X (binaryOp .Mult) rRep:=by
 intro pins s σ H x y v u Q I rx ry h
 obtain ⟨l,k,xs,rfl,rfl,hH,h1,h2,hz,q⟩:=h
 cases rx
 obtain ⟨t,rfl⟩:=ry
 obtain ⟨z,its,n,r,hl,e⟩:=I.lstM hH
 have hlen : its.toArray.size * k.toNat ≤ sizeLine:=by rw [List.size_toArray,← hl]; exact hz
 have hcap : ¬ its.toArray.size * k.toNat > (2 ^ 63 - 1) / 8:=by
  have : (sizeLine : Nat) ≤ (2 ^ 63 - 1) / 8:=by decide
  lia
 have hfit : ¬ (!Builtin.List.listFitsIndex k) = true:=by
  rw [fitsIndex_both h1 h2]
  exact Bool.false_ne_true
 have hlong : ¬ Builtin.List.listTooLong (its.toArray.size * k.toNat) = true:=by
  rw [sC hlen]
  exact Bool.false_ne_true
 have hnew : List.foldl (fun x1 x2=>x1 ++ x2) #[] (List.replicate (if its.toArray.isEmpty = true then 0 else k.toNat) its.toArray) = (List.replicate k.toNat its).flatten.toArray:=by
  have f0 : ∀ m : Nat,List.foldl (fun x1 x2=>x1 ++ x2) #[] (List.replicate m its.toArray) = (List.replicate m its).flatten.toArray:=fun m=>by
   have:=qM its m []
   rw [List.nil_append] at this
   exact this
  rw [f0]
  cases its with
  | nil=>simp
  | cons a r'=>rw [if_neg (by simp)]
 refine wpAny_binaryOp_repeat_ref (T := "list") (U := "int") (by decide) ⟨_,e,rfl⟩ (fun s'=>typeIs_int s' k t) noFill_list_mul F.fills_int_mul F.slot_int_rmul repeat_list F.slot_int_index.lookup
  (call_meets F.slot_int_rmul (typeIs_int s k t) F.entry_int_rmul (F.args_int_rmul_2 _ _) (int___rmul___int_list k t l its.toArray n)
   ⟨e,rfl,⟨_,e,rfl⟩,call_meets F.slot_list_mul ⟨_,e,rfl⟩ F.entry_list_mul (F.args_list_mul_2 _ _) (AutoListH.list___mul___list_int_3 l its.toArray n k t hfit hcap hlong) ⟨e,?_⟩⟩)
 rw [hnew]
 exact ⟨.ref _,_,I.lnew (t':=s.toks) (r.rep k.toNat) (by rw [aCA,Nat.mul_comm]; exact hz),rfl,q _ I.fresh⟩
end
section
variable {prog : Program} {w : World} {A : Around} {E : Value→Shared→Prop} {s : Shared}
end
section
variable {X : Cx}
end
end L2
namespace Att
open PySem PySem.W PySem.Calls PyProof.Rows
theorem nN {P : Params} {h : Heap} : ∀ (ns : List Int) (vs : List Value),WellAll P h vs (ns.map WData.int)→IntsAre vs ns:=by
 intro ns
 induction ns with
 | nil =>
  intro vs w
  rw [List.map_nil] at w
  cases w
  exact .nil
 | cons n ns ih =>
  intro vs w
  rw [List.map_cons] at w
  cases w with
  | cons a b =>
   cases a
   exact .cons _ _ (ih _ b)
theorem zY {l : OpenLaw} {n : Nat} (hn : l.most = some n) {P : Params} {h : Heap} {args : List WData} {vals : List Value}
  (hpre : l.row.toRowW.claim.pre args = true) (hwl : WellAll P h vals args) :
  ∃ a vs ns,vals = [Value.ref a]∧args = [WData.list (ns.map WData.int)]∧h.get? a = some { cls:=.type "list",data:=.seq vs.toArray }∧IntsAre vs ns∧ns.length ≤ n:=by
 have hsh : WShape.hasAll [] args [.list .int] = true:=(pre_splitW hpre).1
 have hc : l.pre.holds [] { args:=args } = true:=(pre_splitW hpre).2
 obtain ⟨d,r,rfl,h1,h2⟩:=hasAllW_cons hsh
 obtain rfl:=hasAllW_nil h2
 obtain ⟨xs,rfl,h3⟩:=hasW_list h1
 obtain ⟨ns,rfl⟩:=items_int h3
 have hlen : ns.length ≤ n:=by
  unfold OpenLaw.pre at hc
  have h4 : (WTm.not (.lt (.lit (.int (n : Int))) (.len (.arg 0)))).holds [] { args:=[.list (ns.map .int)] } = true:=by
   have h4:=(holds_andW hc).1
   rw [hn] at h4
   exact h4
  have h5:=condW_of h4 (w_not (w_lt w_lit (w_len_list (w_arg rfl))))
  rw [List.length_map] at h5
  refine Nat.le_of_not_lt fun q=>?_
  have q' : (n : Int) < ((ns.length : Nat) : Int):=by lia
  first
   | (rw [decide_eq_true q'] at h5; exact absurd h5 (by decide))
   | (simp at h5; lia)
 cases hwl with
 | cons w1 w2 =>
  cases w2
  cases w1 with
  | list ho hall=>exact ⟨_,_,ns,rfl,rfl,ho,nN ns _ hall,hlen⟩
theorem zZ (l : OpenLaw) (args : List WData) : l.row.toRowW.claim.post args (.bool true) args = true :=
 postW_of (r:=l.row.toRowW) (X:=(true == true))
  (show WShape.has [] (.bool true) .bool = true by first | rfl | decide | simp [WShape.has,WShape.arms,WShape.armsAll])
  (show (WTm.eq .res (.lit (.bool true))).value [] { args:=args,res:=some (.bool true),after:=args } = some (.bool (true == true)) from w_eq_bool (w_res rfl) w_lit) rfl
theorem attach_call {l : OpenLaw} {n : Nat} {q : Program} {loose : List Str} {XP : (Str→Option Value)→Heap→Prop} {YP : World→Heap→Prop} {d : DefRec}
  (hn : l.most = some n) (hdf : d.params.defaults = [])
  (call : ∀ (w : World) (s₀ s₁ : Shared) (mg mb : Str→Option Value) (fa : Addr) (o : Obj) (pm cd doc : Value) (a : Addr) (vs : List Value) (ns : List Int),
   Ground q loose [] XP w s₀ mg mb s₁.heap→YP w s₁.heap →
   s₁.heap.get? fa = some o→o.data = .func (docDef d.name d.params d.body d.scope pm cd doc)→s₁.heap.CodeRec cd d.name→mg d.name = some (.ref fa) →
   s₁.heap.get? a = some { cls:=.type "list",data:=.seq vs.toArray }→IntsAre vs ns→ns.length ≤ n→s₁.gens = #[] →
   codeAny (model l.prog w) callerA (.call (.ref fa) ⟨[.ref a],[]⟩) (fun r s'=>r = .ok (.ret (.bool true))∧OldK s₁.heap s'.heap∧s'.os = s₁.os∧AllBare s'.gens) s₁) :
  WalkO q loose XP YP l.row.toRowW d [] (fun f vs=>PySem.call f vs):=by
 intro w s₀ s₁ mg mb G Y fa o pm cd doc dV kV ho hd hcd hD hmg hg args vals as hpre hlay hrd hwl hlo
 obtain rfl : dV = .none:=Dflts.none hD hdf
 obtain rfl : kV = .none:=Dflts.noKw hD
 obtain ⟨a,vs,ns,rfl,rfl,hobj,hints,hlen⟩:=zY hn hpre hwl
 refine enter_call (codeAny_mono (call w s₀ s₁ mg mb fa o pm cd doc a vs ns G Y ho (fd_plain hd) hcd hmg hobj hints hlen hg) fun r s' hq=>?_)
 obtain ⟨rfl,h2,h3,h4⟩:=hq
 exact ⟨.inl ⟨.bool true,.bool true,[],rfl,fun _=>rfl,.bool true,zZ l _,fun _=>⟨List.Pairwise.nil,fun _ hm=>(nomatch hm)⟩⟩,h2,h3,h4⟩
section
variable {prog : Program} {w : World} {A : Around} {E : Value→Shared→Prop} {s : Shared} {K : Frag}
end
end Att
namespace L2
open PySem PySem.Spec PyProof.Rows
theorem kE : ∀ {vs : List Value} {ns : List Int},IntsAre vs ns→Vals (ns.map V.int) vs
 | _,_,.nil=>.nil
 | _,_,.cons n t h=>.cons ⟨t,rfl⟩ (kE h)
end L2
namespace L2
open PySem PySem.Spec PyProof.Rows
end L2
namespace L2
open PySem PySem.Spec PyProof.Rows
def pB (s : Stmt) (j : Nat) : Stmt:=match s with
 | .ClassDef _ _ _ body _ _ _ _ _ _ _=>body.getD j (.Pass ⟨0,0,0,0⟩)
 | _=>.Pass ⟨0,0,0,0⟩
def cK (s : Stmt) : Arguments:=match s with
 | .FunctionDef _ a _ _ _ _ _ _ _ _=>a
 | _=>{ posonlyargs:=[],args:=[],vararg:=none,kwonlyargs:=[],kw_defaults:=[],kwarg:=none,defaults:=[] }
def bQ (s : Stmt) : List Stmt:=match s with
 | .FunctionDef _ _ b _ _ _ _ _ _ _=>b
 | _=>[]
def aM (s : Stmt) : Scope:=match s with
 | .FunctionDef _ _ _ _ _ _ sc _ _ _=>sc
 | _=>{ kind:=.function,names:=[],isGenerator:=false,isCoroutine:=false }
abbrev CX0 : CXT:=fun _ _ _ _ _ _=>False
abbrev E0 : XK:=fun _ _ _=>False
theorem aR {X : Cx} : hV CX0 X E0:=fun _ _ _ _ _ _ _ h=>h.elim
structure Fun (K : PySem.W.Frag) (x qual : Str) (st : Stmt) (f : Addr) (fd : FuncData) : Prop where
 ex : ∃ (oc : Value) (od : Option Addr) (kV doc pm : Value) (an : Option Addr) (cdv ct : Value) (osl : Array (Option Value)),
  fd = PySem.W.fnOf x qual (cK st) (bQ st) (aM st) .none kV doc pm an cdv ct∧K.lookup f = some ⟨oc,od,.func fd,osl⟩∧PySem.W.codeIn K cdv qual = true
 kp : PySem.W.keepIn K (.ref f) = true
section
variable {P : Program} {w : World} {K : PySem.W.Frag} {mg : Str→Option Value} {base : Heap}
theorem Fun.ok {x qual : Str} {st : Stmt} {f : Addr} {fd : FuncData} {N ps : List Str} {k : Nat} {sp : Sp} (F : Fun K x qual st f fd) (S : aZ N ps (aM st)) (len : ∀ vs H Q E,sp vs H Q E→vs.length = ps.length)
  (hbody : ∀ (cdv : Value) (A : Around) (outer : List Env) (s : Shared) (H : Hp) (vs : List V) (Q : VK) (E : XK),Room k (A.deeper (envOfC qual (aM st) s.heap.objs.size f cdv))→sp vs H Q E →
   ∃ t,PSs (cxOf CX0 P w K mg base N qual (aM st) f cdv A outer s H E).nox (bQ st) t∧t { nx:=fun _ H'=>Q .non H',rt:=Q } (start N vs) H) : FnOk P w K mg base CX0 (k + 1) f fd ps sp:=by
 obtain ⟨oc,od,kV,doc,pm,an,cdv,ct,osl,rfl,lk,hcd⟩:=F.ex
 refine aB6 lk hcd S len fun A outer s H vs Q E hr hsp=>?_
 obtain ⟨t,h,q⟩:=hbody cdv A outer s H vs Q E hr hsp
 exact ⟨t,h.nox,q⟩
theorem Fun.binds {x qual : Str} {st : Stmt} {f : Addr} {fd : FuncData} {ps : List Str} (F : Fun K x qual st f fd)
  (h : ∀ (kV doc pm : Value) (an : Option Addr) (cdv ct : Value) (us : List Value),us.length = ps.length→bindArgs (PySem.W.fnOf x qual (cK st) (bQ st) (aM st) .none kV doc pm an cdv ct) ⟨us,[]⟩ = pure (ps.zip us)) : fG K fd ps []:=by
 obtain ⟨oc,od,kV,doc,pm,an,cdv,ct,osl,rfl,lk,hcd⟩:=F.ex
 exact .all (h kV doc pm an cdv ct)
theorem nP {x qual : Str} {st : Stmt} {f : Addr} {oc : Value} {od an : Option Addr} {osl : Array (Option Value)} {kV doc pm cdv ct : Value} (l : K.lookup f = some ⟨oc,od,.func (PySem.W.fnOf x qual (cK st) (bQ st) (aM st) .none kV doc pm an cdv ct),osl⟩)
  (c : PySem.W.codeIn K cdv qual = true) (k : PySem.W.keepIn K (.ref f) = true) : Fun K x qual st f (PySem.W.fnOf x qual (cK st) (bQ st) (aM st) .none kV doc pm an cdv ct):=⟨⟨oc,od,kV,doc,pm,an,cdv,ct,osl,rfl,l,c⟩,k⟩
end
section
variable {X : Cx}
theorem pv (i : Nat) {x : Str} {pos : Pos} (hN : X.N[i]? = some x:=by rfl) (hv : Vis X.env.scope x:=by first | exact Or.inl rfl | exact Or.inr (Or.inl rfl) | exact Or.inr (Or.inr rfl)) (hd : (x == ("__debug__" : Str)) = false:=by decide)
  (hcd : (x == ("__classdict__" : Str)) = false:=by decide) : PE X (.Name x pos) (tVar i):=aDv hN hv hd hcd
end
theorem iteF {A B : Prop} (h : B) : if false = true then A else B:=by
 rw [if_neg Bool.false_ne_true]
 exact h
theorem iteT {A B : Prop} (h : A) : if true = true then A else B:=by
 rw [if_pos rfl]
 exact h
theorem ite2 {c A B : Prop} [Decidable c] (h1 : c→A) (h2 : ¬ c→B) : if c then A else B:=by
 by_cases h : c
 ·rw [if_pos h]
  exact h1 h
 ·rw [if_neg h]
  exact h2 h
def Same (H H' : Hp) : Prop:=∀ b o,H b = some o→H' b = some o
theorem Same.refl (H : Hp) : Same H H:=fun _ _ h=>h
theorem Same.trans {H H1 H2 : Hp} (a : Same H H1) (b : Same H1 H2) : Same H H2:=fun c o h=>b c o (a c o h)
theorem Same.free {H H' : Hp} (e : Same H H') {l : Addr} (h : H' l = Option.none) : H l = Option.none:=by
 cases q : H l with
 | none=>rfl
 | some o =>
  rw [e l o q] at h
  cases h
end L2
namespace L2
open PySem PySem.Spec PyProof.Rows
def cSt (src : List (Option Nat)) (σ : St) : St:=src.map fun o=>match o with | some j=>σ.getD j none | none=>none
theorem aCB {src : List (Option Nat)} {σ : St} {i : Nat} {v : V} (h : (cSt src σ)[i]? = some (some v)) : ∃ j,src[i]? = some (some j)∧σ[j]? = some (some v):=by
 unfold cSt at h
 rw [List.getElem?_map] at h
 cases e : src[i]? with
 | none=>rw [e] at h; cases h
 | some o =>
  rw [e] at h
  cases o with
  | none=>cases h
  | some j =>
   refine ⟨j,rfl,?_⟩
   have h' : σ.getD j none = some v:=Option.some.inj h
   rw [List.getD_eq_getElem?_getD] at h'
   cases e2 : σ[j]? with
   | none=>rw [e2] at h'; cases h'
   | some o=>rw [e2] at h'; rw [show o = some v from h']
structure eZ (NB : List Str) (src : List (Option Nat)) (scope : Scope) (X : Cx) : Prop where
 kind : scope.kind = .function
 nd : NB.Nodup
 len : src.length = NB.length
 cells : ∀ y∈scope.names,y.2 = .cell→scope.names.lookup y.1 = some .cell
 names : ∀ y∈scope.names,y.2 = .local→scope.names.lookup y.1 = some .local
 free : ∀ y∈scope.names,y.2 = .free→X.env.scope.names.lookup y.1 = some .cell∨X.env.scope.names.lookup y.1 = some .free
 src : ∀ (i : Nat) (x : Str) (j : Nat),NB[i]? = some x→src[i]? = some (some j)→X.N[j]? = some x∧scope.names.lookup x = some .free
def pC (scope : Scope) (x : Str) : Bool:=match scope.names.lookup x with
 | some .cell=>true
 | _=>false
theorem uS {scope : Scope} {x : Str} : pC scope x = true↔scope.names.lookup x = some .cell:=by
 unfold pC
 split
 ·rename_i h; exact ⟨fun _=>h,fun _=>rfl⟩
 ·rename_i h; exact ⟨fun z=>(by cases z),fun z=>absurd z h⟩
def blk (X : Cx) (NB : List Str) (scope : Scope) (cl : List (Str × Addr)) (C : Addr) (s₃ : Shared) (H₃ : Hp) (fp : List Addr) : Cx :=
 { X with N:=NB,s₀:=s₃,H₀:=H₃,env:=compEnvC scope cl C X.env,outer:=X.stack,stack:=X.stack,ex:=fp,fn:=pC scope,pn:=[],xe:=fun _ _=>False }
theorem jI {env : Env} : ∀ (names : List (Str × NameKind)) (acc : List (Str × Addr)),(∀ y∈names,y.2 = NameKind.free→∃ c,env.cells.lookup y.1 = some c)→(∀ x c,acc.lookup x = some c→env.cells.lookup x = some c) →
  ∃ cl,(forIn names acc fun x r=>(if (x.2 == NameKind.free) = true then (do let a ← cellOf env x.1; pure (ForInStep.yield ((x.1,a) :: r))) else pure (ForInStep.yield r) : Sem (ForInStep (List (Str × Addr))))) = (pure cl : Sem (List (Str × Addr))) ∧
   (∀ x c,cl.lookup x = some c→env.cells.lookup x = some c)∧(∀ x c,acc.lookup x = some c→∃ c',cl.lookup x = some c')∧∀ x,(x,NameKind.free)∈names→∃ c,cl.lookup x = some c
 | [],acc,_,ha=>⟨acc,by rw [List.forIn_nil],ha,fun x c h=>⟨c,h⟩,fun x h=>nomatch h⟩
 | (n,k) :: r,acc,hf,ha=>by
  by_cases hk : k = NameKind.free
  ·subst hk
   obtain ⟨c,hc⟩:=hf (n,NameKind.free) List.mem_cons_self rfl
   have ha' : ∀ x c',((n,c) :: acc).lookup x = some c'→env.cells.lookup x = some c':=fun x c' h=>by
    rw [List.lookup_cons] at h
    cases hx : x == n with
    | true =>
     rw [hx] at h
     cases h
     have : x = n:=by simpa using hx
     rw [this]; exact hc
    | false=>rw [hx] at h; exact ha x c' h
   obtain ⟨cl,e1,e2,e3,e4⟩:=jI r ((n,c) :: acc) (fun y hy=>hf y (List.mem_cons_of_mem _ hy)) ha'
   refine ⟨cl,?_,e2,fun x c' h=>?_,fun x h=>?_⟩
   ·rw [List.forIn_cons]
    have ec : cellOf env n = pure c:=by unfold cellOf; rw [hc]
    have e0 : (if ((n,NameKind.free).2 == NameKind.free) = true then (do let a ← cellOf env (n,NameKind.free).1; pure (ForInStep.yield (((n,NameKind.free).1,a) :: acc))) else pure (ForInStep.yield acc) : Sem (ForInStep (List (Str × Addr)))) = pure (ForInStep.yield ((n,c) :: acc)):=by
     rw [if_pos (show (NameKind.free == NameKind.free) = true by decide)]
     show cellOf env n >>= _ = _
     rw [ec]; rfl
    rw [e0]
    exact e1
   ·cases hx : x == n with
    | true=>exact e3 x c (by rw [List.lookup_cons,hx])
    | false=>exact e3 x c' (by rw [List.lookup_cons,hx]; exact h)
   ·rcases List.mem_cons.mp h with h | h
    ·cases h
     exact e3 n c (by rw [List.lookup_cons]; simp)
    ·exact e4 x h
  ·obtain ⟨cl,e1,e2,e3,e4⟩:=jI r acc (fun y hy=>hf y (List.mem_cons_of_mem _ hy)) ha
   refine ⟨cl,?_,e2,e3,fun x h=>?_⟩
   ·rw [List.forIn_cons]
    have hb : (k == NameKind.free) = false:=by simpa using hk
    have e0 : (if ((n,k).2 == NameKind.free) = true then (do let a ← cellOf env (n,k).1; pure (ForInStep.yield (((n,k).1,a) :: acc))) else pure (ForInStep.yield acc) : Sem (ForInStep (List (Str × Addr)))) = pure (ForInStep.yield acc):=by
     rw [if_neg (by show ¬ (k == NameKind.free) = true; rw [hb]; decide)]
    rw [e0]
    exact e1
   ·rcases List.mem_cons.mp h with h | h
    ·cases h; exact absurd rfl hk
    ·exact e4 x h
theorem jJ {X : Cx} (ok : X.Ok) {NB : List Str} {src : List (Option Nat)} {scope : Scope} (S : eZ NB src scope X) :
  ∃ cl,closureFor scope X.env = pure cl∧(∀ x c,cl.lookup x = some c→X.env.cells.lookup x = some c)∧∀ x,(x,NameKind.free)∈scope.names→∃ c,cl.lookup x = some c:=by
 obtain ⟨cl,e1,e2,_,e4⟩:=jI (env:=X.env) scope.names [] (fun y hy hk=>ok.has y.1 (S.free y hy hk)) (fun x c h=>nomatch h)
 refine ⟨cl,?_,e2,e4⟩
 unfold closureFor
 simp only [bind_pure]
 exact e1
theorem sG {scope : Scope} {env : Env} {x : Str} (h : scope.names.lookup x = some .free) : (relabel scope env).names.lookup x = some .cell∨(relabel scope env).names.lookup x = some .free:=by
 have go : ∀ names : List (Str × NameKind),names.lookup x = some .free →
   (names.map fun (n,k)=>if (k == NameKind.free && env.scope.kind == .function && env.kindOf n == some .cell) then (n,NameKind.cell) else (n,k)).lookup x = some .cell ∨
   (names.map fun (n,k)=>if (k == NameKind.free && env.scope.kind == .function && env.kindOf n == some .cell) then (n,NameKind.cell) else (n,k)).lookup x = some .free:=by
  intro names
  induction names with
  | nil=>intro h; simp at h
  | cons y r ih =>
   intro h
   obtain ⟨n,k⟩:=y
   rw [List.lookup_cons] at h
   rw [List.map_cons]
   cases hx : x == n with
   | true =>
    rw [hx] at h
    cases h
    by_cases hc : (NameKind.free == NameKind.free && env.scope.kind == .function && env.kindOf n == some .cell) = true
    ·left; show List.lookup x ((if _ then _ else _) :: _) = _; rw [if_pos hc,List.lookup_cons,hx]
    ·right; show List.lookup x ((if _ then _ else _) :: _) = _; rw [if_neg hc,List.lookup_cons,hx]
   | false =>
    rw [hx] at h
    by_cases hc : (k == NameKind.free && env.scope.kind == .function && env.kindOf n == some .cell) = true
    ·show List.lookup x ((if _ then _ else _) :: _) = _∨List.lookup x ((if _ then _ else _) :: _) = _
     rw [if_pos hc,List.lookup_cons,hx]; exact ih h
    ·show List.lookup x ((if _ then _ else _) :: _) = _∨List.lookup x ((if _ then _ else _) :: _) = _
     rw [if_neg hc,List.lookup_cons,hx]; exact ih h
 exact go scope.names h
theorem kF {scope : Scope} {env : Env} {x : Str} {k : NameKind} (h : (relabel scope env).names.lookup x = some k) (hk : k = .cell∨k = .free) : (x,NameKind.free)∈scope.names∨(x,NameKind.cell)∈scope.names:=by
 have m:=PySem.mem_of_lookup h
 obtain ⟨⟨n,k'⟩,hm,e⟩:=List.mem_map.mp m
 by_cases q : (k' == NameKind.free && env.scope.kind == .function && env.kindOf n == some .cell) = true
 ·have e' : (n,NameKind.cell) = (x,k):=by simpa [q] using e
  have k1 : k' = NameKind.free:=by
   simp only [Bool.and_eq_true,beq_iff_eq] at q
   exact q.1.1
  cases e'
  left
  rw [← k1]; exact hm
 ·have e' : (n,k') = (x,k):=by simpa [q] using e
  cases e'
  rcases hk with z | z
  ·subst z; exact .inr hm
  ·subst z; exact .inl hm
theorem kG : ∀ (names : List (Str × NameKind)) (h : Heap) (acc : List (Str × Addr)) (x : Str) (c : Addr),(cellsFrom h.objs.size names acc).lookup x = some c→acc.lookup x = some c∨(h.objs.size ≤ c∧(pushCells h names).IsCell c none)
 | [],_,_,_,_,e=>.inl e
 | (name,kind) :: r,h,acc,x,c,e=>by
  unfold cellsFrom at e
  unfold pushCells
  split at e
  ·rename_i hk
   rw [if_pos hk]
   have hsz : (h.push { cls:=.type "cell",data:=.cell none }).objs.size = h.objs.size + 1:=Heap.size_push ..
   rw [← hsz] at e
   rcases kG r _ _ x c e with z | ⟨z1,z2⟩
   ·rw [List.lookup_cons] at z
    cases hx : x == name with
    | true =>
     rw [hx] at z
     cases z
     exact .inr ⟨Nat.le_refl _,_,pushCells_keeps r _ _ _ (Heap.get?_push_size _ rfl),rfl⟩
    | false=>rw [hx] at z; exact .inl z
   ·exact .inr ⟨by lia,z2⟩
  ·rename_i hk
   rw [if_neg hk]
   exact kG r h acc x c e
theorem qN : ∀ (names : List (Str × NameKind)) (n : Nat) (acc : List (Str × Addr)) (x : Str),(x,NameKind.cell)∈names→∃ c,n ≤ c∧(cellsFrom n names acc).lookup x = some c:=by
 have up : ∀ (names : List (Str × NameKind)) (n m : Nat) (acc : List (Str × Addr)) (x : Str) (c : Addr),acc.lookup x = some c→m ≤ c→m ≤ n→∃ c',m ≤ c'∧(cellsFrom n names acc).lookup x = some c':=by
  intro names
  induction names with
  | nil=>intro n m acc x c e h _; exact ⟨c,h,e⟩
  | cons y r ih =>
   intro n m acc x c e h hm
   obtain ⟨name,kind⟩:=y
   unfold cellsFrom
   split
   ·cases hx : x == name with
    | true=>exact ih (n + 1) m _ x n (by rw [List.lookup_cons,hx]) hm (by lia)
    | false=>exact ih (n + 1) m _ x c (by rw [List.lookup_cons,hx]; exact e) h (by lia)
   ·exact ih n m acc x c e h hm
 intro names
 induction names with
 | nil=>intro n acc x h; cases h
 | cons y r ih =>
  intro n acc x h
  obtain ⟨name,kind⟩:=y
  unfold cellsFrom
  rcases List.mem_cons.mp h with z | z
  ·cases z
   rw [if_pos (by decide)]
   exact up r (n + 1) n _ x n (by rw [List.lookup_cons]; simp) (Nat.le_refl _) (by lia)
  ·split
   ·obtain ⟨c,h1,h2⟩:=ih (n + 1) ((name,n) :: acc) x z
    exact ⟨c,by lia,h2⟩
   ·exact ih n acc x z
theorem iJ : ∀ (names : List (Str × NameKind)) (n : Nat) (acc : List (Str × Addr)) (x : Str) (c : Addr),acc.lookup x = some c→(x,NameKind.cell) ∉ names→(cellsFrom n names acc).lookup x = some c
 | [],_,_,_,_,e,_=>e
 | (name,kind) :: r,n,acc,x,c,e,h=>by
  have hr : (x,NameKind.cell) ∉ r:=fun z=>h (List.mem_cons_of_mem _ z)
  unfold cellsFrom
  split
  ·rename_i hk
   have hne : (x == name) = false:=by
    cases hx : x == name with
    | false=>rfl
    | true =>
     have e1 : x = name:=by simpa using hx
     have e2 : kind = .cell:=by simpa using hk
     exact absurd (by rw [e1,e2]; exact List.mem_cons_self) h
   exact iJ r (n + 1) _ x c (by rw [List.lookup_cons,hne]; exact e) hr
  ·exact iJ r n acc x c e hr
theorem kH : ∀ (names : List (Str × NameKind)) (n : Nat) (acc : List (Str × Addr)),(∀ x y c,acc.lookup x = some c→acc.lookup y = some c→x = y)→(∀ x c,acc.lookup x = some c→c < n)→∀ x y c,(cellsFrom n names acc).lookup x = some c→(cellsFrom n names acc).lookup y = some c→x = y
 | [],_,_,hi,_=>hi
 | (name,kind) :: r,n,acc,hi,hl=>by
  unfold cellsFrom
  split
  ·refine kH r (n + 1) _ (fun x y c h1 h2=>?_) (fun x c h=>?_)
   ·rw [List.lookup_cons] at h1 h2
    cases hx : x == name <;> cases hy : y == name <;> rw [hx] at h1 <;> rw [hy] at h2
    ·exact hi x y c h1 h2
    ·cases h2; exact absurd (hl x _ h1) (Nat.lt_irrefl _)
    ·cases h1; exact absurd (hl y _ h2) (Nat.lt_irrefl _)
    ·have e1 : x = name:=by simpa using hx
     have e2 : y = name:=by simpa using hy
     rw [e1,e2]
   ·rw [List.lookup_cons] at h
    cases hx : x == name <;> rw [hx] at h
    ·exact Nat.lt_succ_of_lt (hl x c h)
    ·cases h; exact Nat.lt_succ_self _
  ·exact kH r n acc hi hl
section
variable {X : Cx} {pins : List (Addr × Obj)} {σ : St} {H : Hp} {s : Shared} {NB : List Str} {src : List (Option Nat)} {scope : Scope} {cl : List (Str × Addr)} {fp : List Addr} {h₁ : Heap} {t₁ : Nat}
theorem aCC (I : Inv X pins σ H s) (S : eZ NB src scope X) (c1 : ∀ x c,cl.lookup x = some c→X.env.cells.lookup x = some c) (c2 : ∀ x,(x,NameKind.free)∈scope.names→∃ c,cl.lookup x = some c)
  (hf : ∀ b∈fp,FpOk X pins H b) (hfo : ∀ b∈fp,b < s.heap.objs.size) {m : Str→Option Value} (hn : h₁.Ns s.heap.objs.size m) (hk : ∀ b o,s.heap.get? b = some o→h₁.get? b = some o)
  (hnew : ∀ x c,(cellsFrom (s.heap.objs.size + 1) scope.names cl).lookup x = some c→cl.lookup x = some c∨(s.heap.objs.size < c∧h₁.IsCell c none)) :
  Inv (blk X NB scope (cellsFrom (s.heap.objs.size + 1) scope.names cl) s.heap.objs.size s H fp) [] (cSt src σ) H { s with heap:=h₁,toks:=t₁ }:=by
 have stk : ∀ b∈frs X.stack,b∈X.env.locals :: X.fs:=I.stkSub
 have cellOk : ∀ x c,cl.lookup x = some c→∃ v,s.heap.IsCell c v:=fun x c e=>I.cell x c (c1 x c e)
 have clLt : ∀ x c,cl.lookup x = some c→c < s.heap.objs.size:=fun x c e=>by obtain ⟨v,o,ho,_⟩:=cellOk x c e; exact Heap.lt_size ho
 refine ⟨⟨I.ok.mod,S.kind,I.ok.glob,I.ok.blt,Nat.le_refl _,kH _ _ _ (fun x y c e1 e2=>I.ok.inj x y c (c1 x c e1) (c1 y c e2)) (fun x c e=>Nat.lt_succ_of_lt (clLt x c e)),fun x hx=>?_,fun x c z e=>?_,I.ok.hd,I.ok.frames,.inl rfl,fun b hb=>⟨?_,fun x c e=>?_⟩,I.bs,Nat.le_trans I.ok.bsz I.sz,fun b o e hb=>?_,fun b hb=>?_,I.stack,I.stkFree⟩,
  rfl,I.bare,Un.kept hk,⟨m,hn,fun i x v e1 e2 e3=>?_⟩,fun x c e=>?_,I.hok.fresh (Nat.le_refl _),fun x c e=>?_,fun p hp=>absurd (show p∈([] : List (Addr × Obj)) from hp) (by simp),I.hok.kept hk,?_⟩
 ·have both : (x,NameKind.free)∈scope.names∨(x,NameKind.cell)∈scope.names:=by
   rcases hx with hx | hx
   ·exact kF hx (.inl rfl)
   ·exact kF hx (.inr rfl)
  by_cases hc : (x,NameKind.cell)∈scope.names
  ·obtain ⟨c,_,e⟩:=qN scope.names (s.heap.objs.size + 1) cl x hc
   exact ⟨c,e⟩
  ·rcases both with z | z
   ·obtain ⟨c,e⟩:=c2 x z
    exact ⟨c,iJ _ _ _ _ _ e hc⟩
   ·exact absurd z hc
 ·have hm:=PySem.mem_of_lookup (uS.mp z)
  obtain ⟨c',h1,h2⟩:=qN scope.names (s.heap.objs.size + 1) cl x hm
  have e' : (cellsFrom (s.heap.objs.size + 1) scope.names cl).lookup x = some c:=e
  rw [h2] at e'
  cases e'
  exact Nat.le_of_succ_le h1
 ·exact Nat.ne_of_lt (hfo b hb)
 ·rcases hnew x c e with z | ⟨z,_⟩
  ·exact (hf b hb).2.2.2.2.1 x c (c1 x c z)
  ·exact Nat.ne_of_gt (Nat.lt_trans (hfo b hb) z)
 ·rcases (hf b hb).2.2.2.1 with z | z
  ·exact I.ok.noex b o e z
  ·exact absurd (Nat.lt_of_lt_of_le (Heap.lt_size e) (Nat.le_trans I.ok.bsz z)) (Nat.lt_irrefl _)
 ·intro z
  rcases List.mem_cons.mp (stk b z) with e | e
  ·exact (hf b hb).2.1 e
  ·exact (hf b hb).2.2.1 e
 ·obtain ⟨j,hj,hv⟩:=aCB e2
  obtain ⟨hN,hF⟩:=S.src i x j e1 hj
  obtain ⟨m0,hn0,hl0⟩:=I.loc
  have hmem:=PySem.mem_of_lookup hF
  have kx:=S.free _ hmem rfl
  have vis : Vis X.env.scope x:=by
   rcases kx with z | z
   ·exact .inr (.inl z)
   ·exact .inr (.inr z)
  obtain ⟨u,r,l⟩:=hl0 j x v hN hv vis
  refine ⟨u,r,.inr ⟨sG hF,?_⟩⟩
  obtain ⟨c,hc⟩:=c2 x hmem
  have hnc : (x,NameKind.cell) ∉ scope.names:=fun z=>by
   have:=S.cells _ z rfl
   rw [hF] at this; cases this
  refine ⟨c,iJ _ _ _ _ _ hc hnc,?_⟩
  rcases l with ⟨hk',_⟩ | ⟨_,c',e,z⟩
  ·have hk'' : X.env.scope.names.lookup x = some .local:=hk'
   rcases kx with z | z <;> (rw [z] at hk''; cases hk'')
  ·rw [c1 x c hc] at e
   cases e
   obtain ⟨o,ho,hd⟩:=z
   exact ⟨o,hk _ _ ho,hd⟩
 ·rcases hnew x c e with z | ⟨_,z⟩
  ·obtain ⟨v,o,ho,hd⟩:=cellOk x c z
   exact ⟨v,o,hk _ _ ho,hd⟩
  ·exact ⟨none,z⟩
 ·rcases hnew x c e with z | ⟨z,_⟩
  ·exact I.freeC x c (c1 x c z)
  ·exact I.hok.fresh (Nat.le_of_lt z)
 ·show (cSt src σ).length = NB.length
  unfold cSt
  rw [List.length_map]
  exact S.len
theorem Inv.unblk {C : Addr} {σB : St} {H' : Hp} {s' : Shared} (I : Inv X pins σ H s) (J : Inv (blk X NB scope cl C s H fp) [] σB H' s') (hf : ∀ b∈fp,FpOk X pins H b) : Inv X pins σ H' s':=by
 refine I.call' (ch:=fp) J.os J.base J.hok J.bare fun b hb=>?_
 obtain ⟨_,f1,_,f3,f4,f5⟩:=hf b hb
 exact ⟨f3,f1,f4,f5⟩
end
def PTs (X : Cx) (ifs : List Expr) (t : TT) : Prop :=
 ∀ (pins : List (Addr × Obj)) (s : Shared) (σ : St) (H : Hp) (Q : Bool→Hp→Prop),Inv X pins σ H s→t σ H Q →
  wpAny (model X.prog X.w) X.A (forIn ifs true fun c r=>if r = true then do let ok ← isTrue c X.env (eval c X.env); pure (ForInStep.yield ok) else pure (ForInStep.yield r)) (TP X pins σ Q) X.xe s
def tYes : TT:=fun _ H Q=>Q true H
theorem cE {X : Cx} : PTs X [] tYes:=fun _ _ _ H _ I h=>wpAny_tests_nil ⟨H,I,h⟩
theorem eN {X : Cx} {c : Expr} {t : TT} (h : PT X c t) : PTs X [c] t:=fun pins s σ H Q I q=>wpAny_tests_one (h pins s σ H Q I q)
def dL (J : It) (g : TG) (tt : TT) (te : TE) (D : Addr) (fin : Hp→Prop) (σB : St) (H1 : Hp) : Prop :=
 ∃ W : Nat→Nat→St→Hp→Prop,(∃ m,W 0 m σB H1)∧∀ i m σ H,W i m σ H→(J.stop i H∧fin H)∨(J.go i H∧∀ x H',J.yld i H x H'→g x σ H' fun σ2 H2=>tt σ2 H2 fun b H3 =>
  if b = true then te σ2 H3 fun v H4=>∃ ys,H4 D = some (.lst ys)∧ys.length < sizeLine∧∃ m',m' < m∧W (i + 1) m' σ2 (upd H4 D (.lst (ys ++ [v]))) else ∃ m',m' < m∧W (i + 1) m' σ2 H3)
theorem aAa {B : Cx} {elt tg iter : Expr} {ifs : List Expr} {scope : Scope} {pos : Pos} {J : It} {g : TG} {tt : TT} {te : TE} {D it : Addr} {fp : List Addr} {tn : Nat→Heap→Prop} {fin : Hp→Prop} {R : Result→Shared→Prop} {s : Shared} {σB : St} {H1 : Hp}
  (hx : B.xe = fun _ _=>False) (hc : B.calm = true) (T : Turn B.prog B.w B.K tg J fp it tn) (hg : PG B tg g) (ht : PTs B ifs tt) (he : PE B elt te) (I : Inv B [] σB H1 s) (st : tn 0 s.heap) (hf : ∀ b∈fp,FpOk B [] H1 b)
  (hw : dL J g tt te D fin σB H1) (hR : ∀ σ' H' s',Inv B [] σ' H' s'→fin H'→R (.ok .next) s') :
  codeAny (model B.prog B.w) B.A (.compLoop (.ListComp elt [⟨tg,iter,ifs,0⟩] scope pos) 0 (.ref it) (.ref D) B.env) R s:=by
 obtain ⟨W,⟨m0,w0⟩,turn⟩:=hw
 have stat : ∀ {H' : Hp},(∀ b∈fp,H' b = none)→∀ b∈fp,FpOk B [] H' b:=fun hn b hb=>⟨hn b hb,(hf b hb).2⟩
 refine codeAny_loop rfl (fun n s'=>∃ i σ' H',Inv B [] σ' H' s'∧tn i s'.heap∧(∀ b∈fp,H' b = none)∧W i n σ' H') ?_ m0 ⟨0,σB,H1,I,st,fun b hb=>(hf b hb).1,w0⟩
 rintro n s3 ⟨i,σ3,H3,I3,st3,fr3,w3⟩
 show wpAny _ B.A ((compTurn (.ListComp elt [⟨tg,iter,ifs,0⟩] scope pos) 0 (.ref it) (.ref D) B.env).onRaise (fun x=>do noteFrame x B.env; theTreesLotGoes x)) _ _ s3
 refine wpAny_noted ?_
 rw [compTurn_list]
 have nx : ∀ {α : Type} {t : Sem α} {Q : α→Shared→Prop} {E' : Value→Shared→Prop} {s : Shared},wpAny (model B.prog B.w) B.A t Q B.xe s→wpAny (model B.prog B.w) B.A t Q E' s:=fun h =>
  wpAny_mono h (fun _ _ q=>q) fun _ _ z=>by rw [hx] at z; exact z.elim
 rcases turn i n σ3 H3 w3 with ⟨stop,qn⟩ | ⟨go,step⟩
 ·refine wpAny_bind (wpAny_standAt (wpAny_bind (thn (T.done B rfl rfl rfl hc i [] s3 σ3 H3 _ I3 (stat fr3) st3 stop) fun r s4 ⟨hr,I4⟩=>?_)))
  subst hr
  exact wpAny_pure (hR σ3 H3 s4 I4 qn)
 ·refine wpAny_bind (wpAny_standAt (wpAny_bind (thn (T.item B rfl rfl rfl hc i [] s3 σ3 H3 _ I3 (stat fr3) st3 go) fun r s4 ⟨u,hr,h4⟩=>?_)))
  subst hr
  refine wpAny_bind (thn h4 fun _ s5 ⟨x,H5,I5,r5,y5,st5,fr5⟩=>?_)
  have I5':=I5.pinned (stat fr5) (T.obj _ _ st5)
  refine wpAny_bind (nx (thn (hg _ s5 σ3 H5 x u _ I5' r5 (step x H5 y5)) fun _ s6 ⟨σ6,H6,I6,q6⟩=>?_))
  have back : ∀ {σ7 : St} {H7 : Hp} {s7 : Shared} {m' : Nat},Inv B ([] ++ jY fp s5.heap) σ7 H7 s7→m' < n→W (i + 1) m' σ7 H7→∃ m,m < n∧∃ i σ' H',Inv B [] σ' H' s7∧tn i s7.heap∧(∀ b∈fp,H' b = none)∧W i m σ' H':=fun {σ7 H7 s7 m'} I7 hm w7=>by
   refine ⟨m',hm,i + 1,σ7,H7,I7.unpinned,T.keep _ _ _ st5 fun b hb o e=>(I7.pin (b,o) (List.mem_append_right _ (List.mem_append_right _ (gC hb e)))).1,fun b hb=>?_,w7⟩
   obtain ⟨o,e,d⟩:=T.obj _ _ st5 b hb
   exact (I7.pin (b,o) (List.mem_append_right _ (List.mem_append_right _ (gC hb e)))).2.1
  refine wpAny_bind (nx (thn (ht _ s6 σ6 H6 _ I6 q6) fun ok s7 ⟨H7,I7,q7⟩=>?_))
  cases ok with
  | false =>
   rw [if_neg Bool.false_ne_true] at q7
   obtain ⟨m',hm,w7⟩:=q7
   exact wpAny_pure ⟨rfl,back I7 hm w7⟩
  | true =>
   rw [if_pos rfl] at q7
   refine wpAny_bind (wpAny_bind (nx (thn (he _ s7 σ6 H7 _ I7 q7) fun v s8 ⟨y,H8,I8,r8,ys,hD,hl,m',hm,w8⟩=>?_)))
   refine wpAny_bind (nx (thn (dJ _ s8 σ6 H8 (.ref D) [y] (.ref D) [v] (fun _ H9=>H9 = upd H8 D (.lst (ys ++ [y]))) I8 rfl (.cons r8 .nil) ⟨D,ys,y,rfl,rfl,hD,hl,rfl⟩) fun _ s9 ⟨_,H9,I9,_,e9⟩=>?_))
   subst e9
   exact wpAny_pure (wpAny_pure ⟨rfl,back I9 hm w8⟩)
end L2
namespace L2
open PySem PySem.Spec PyProof.Rows
theorem sI {M : Model} {A : Around} {E : Value→Shared→Prop} {s : Shared} {scope : Scope} {globals : Addr} {cl : List (Str × Addr)} {qual : Str} {outer : Env} {Q : Env→Shared→Prop}
  (hQ : Q { scope:=scope,locals:=s.heap.objs.size,globals:=globals,cells:=cellsFrom (s.heap.objs.size + 1) scope.names cl,qual:=qual,func:=none,code:=outer.code,frame:=outer.frame,builtins:=outer.builtins }
   { s with heap:=pushCells (s.heap.push { cls:=.type "dict",data:=.dict #[] }) scope.names }) :
  wpAny M A (newFunctionEnv scope globals cl [] qual none .none (some outer)) Q E s:=by
 simp only [newFunctionEnv,Option.isSome_some,if_true]
 refine wpAny_bind (wpAny_alloc ?_)
 refine wpAny_bind (wpAny_layCells _ (fun name kind cells=>by cases hkc : kind == NameKind.cell <;> simp [hkc]) _ _ _ _ ?_)
 rw [show ({ s with heap:=s.heap.push { cls:=.type "dict",data:=.dict #[] } } : Shared).heap.objs.size = s.heap.objs.size + 1 from Heap.size_push ..]
 refine wpAny_bind ?_
 rw [List.forIn_nil]
 exact wpAny_pure (wpAny_pure hQ)
section
variable {X : Cx} {elt tg iter : Expr} {ifs : List Expr} {scope : Scope} {pos : Pos} {wi : TI} {g : TG} {tt : TT} {te : TE} {NB : List Str} {src : List (Option Nat)}
def xP (src : List (Option Nat)) (wi : TI) (g : TG) (tt : TT) (te : TE) : TE:=fun σ H Q=>wi σ H fun J H1=>∀ D,H1 D = none→dL J g tt te D (fun H'=>Q (.ref D) H') (cSt src σ) (upd H1 D (.lst []))
theorem nQ {pins : List (Addr × Obj)} {σ : St} {H2 : Hp} {s2 : Shared} {J : It} {fp : List Addr} {it : Addr} {tn : Nat→Heap→Prop} {cl : List (Str × Addr)} {fin : Addr→Hp→Prop} {E' : Value→Shared→Prop} {RR : Value→Addr→Result→Shared→Prop}
  (S : eZ NB src scope X) (hc : X.calm = true) (c1 : ∀ x c,cl.lookup x = some c→X.env.cells.lookup x = some c) (c2 : ∀ x,(x,NameKind.free)∈scope.names→∃ c,cl.lookup x = some c)
  (hg : ∀ cl C s₃ H₃ fp,PG (blk X NB scope cl C s₃ H₃ fp) tg g) (ht : ∀ cl C s₃ H₃ fp,PTs (blk X NB scope cl C s₃ H₃ fp) ifs tt) (he : ∀ cl C s₃ H₃ fp,PE (blk X NB scope cl C s₃ H₃ fp) elt te)
  (I2 : Inv X pins σ H2 s2) (T : Turn X.prog X.w X.K tg J fp it tn) (st2 : tn 0 s2.heap) (f2 : ∀ b∈fp,FpOk X pins H2 b)
  (hw : ∀ D,H2 D = none→dL J g tt te D (fin D) (cSt src σ) (upd H2 D (.lst [])))
  (hR : ∀ D C H' s',FpOk X pins H' C→Inv X pins σ H' s'→(∃ m,s'.heap.Ns C m)→fin D H'→RR (.ref D) C (.ok .next) s') :
  wpAny (model X.prog X.w) X.A (newList []) (fun acc s₃=>wpAny (model X.prog X.w) X.A (newFunctionEnv scope X.env.globals cl [] X.env.qual none .none (some X.env)) (fun cenv s₄ =>
   codeAny (model X.prog X.w) X.A (.compStart (.ListComp elt [⟨tg,iter,ifs,0⟩] scope pos) 0 (.ref it) acc { cenv with scope:=relabel scope X.env }) (RR acc cenv.locals) s₄) E' s₃) E' s2:=by
 refine wpAny_newObj_type (sI ?_)
 have I3:=I2.lnew (ys:=[]) (its:=[]) (t':=s2.toks) .nil (Nat.zero_le _)
 have hD : H2 s2.heap.objs.size = none:=I2.fresh
 have fo : ∀ b∈fp,b < s2.heap.objs.size:=fun b hb=>by obtain ⟨o,e,_⟩:=T.obj _ _ st2 b hb; exact Heap.lt_size e
 have up : ∀ {b : Addr},b∈fp→upd H2 s2.heap.objs.size (.lst []) b = H2 b:=fun {b} hb=>aH (Nat.ne_of_lt (fo b hb))
 have f3 : ∀ b∈fp,FpOk X pins (upd H2 s2.heap.objs.size (.lst [])) b:=fun b hb=>⟨by rw [up hb]; exact (f2 b hb).1,(f2 b hb).2⟩
 have hsz : (s2.heap.push { cls:=.type "list",data:=.seq ([] : List Value).toArray }).objs.size = s2.heap.objs.size + 1:=by rw [Heap.size_push]
 generalize hs3 : ({ s2 with heap:=s2.heap.push { cls:=.type "list",data:=.seq ([] : List Value).toArray } } : Shared) = s3 at I3 ⊢
 have hh3 : s3.heap = s2.heap.push { cls:=.type "list",data:=.seq ([] : List Value).toArray }:=by rw [← hs3]
 have fo3 : ∀ b∈fp,b < s3.heap.objs.size:=fun b hb=>by rw [hh3,hsz]; exact Nat.lt_succ_of_lt (fo b hb)
 have hsz3 : (s3.heap.push { cls:=.type "dict",data:=.dict #[] }).objs.size = s3.heap.objs.size + 1:=Heap.size_push ..
 have hnew : ∀ x c,(cellsFrom (s3.heap.objs.size + 1) scope.names cl).lookup x = some c→cl.lookup x = some c∨(s3.heap.objs.size < c∧(pushCells (s3.heap.push { cls:=.type "dict",data:=.dict #[] }) scope.names).IsCell c none):=fun x c e=>by
  rw [← hsz3] at e
  rcases kG _ _ _ _ _ e with z | ⟨z1,z2⟩
  ·exact .inl z
  ·exact .inr ⟨by rw [hsz3] at z1; exact z1,z2⟩
 have hns₁:=(Heap.Ns.new s3.heap (.type "dict")).keeps (pushCells_keeps scope.names _)
 have keep : ∀ b o,s3.heap.get? b = some o→(pushCells (s3.heap.push { cls:=.type "dict",data:=.dict #[] }) scope.names).get? b = some o:=fun b o e=>pushCells_keeps _ _ b o (Heap.get?_push_of_some _ e)
 generalize hh1 : pushCells (s3.heap.push { cls:=.type "dict",data:=.dict #[] }) scope.names = h₁ at hnew hns₁ keep ⊢
 have IB : Inv (blk X NB scope (cellsFrom (s3.heap.objs.size + 1) scope.names cl) s3.heap.objs.size s3 (upd H2 s2.heap.objs.size (.lst [])) fp) [] (cSt src σ) (upd H2 s2.heap.objs.size (.lst [])) { s3 with heap:=h₁,toks:=s3.toks } :=
  aCC I3 S c1 c2 f3 fo3 hns₁ keep hnew
 have stB : tn 0 h₁:=T.keep 0 s2.heap h₁ st2 fun b hb o e=>keep b o (by rw [hh3]; exact Heap.get?_push_of_some _ e)
 have fB : ∀ b∈fp,FpOk (blk X NB scope (cellsFrom (s3.heap.objs.size + 1) scope.names cl) s3.heap.objs.size s3 (upd H2 s2.heap.objs.size (.lst [])) fp) [] (upd H2 s2.heap.objs.size (.lst [])) b:=fun b hb=>by
  refine ⟨(f3 b hb).1,Nat.ne_of_lt (fo3 b hb),fun z=>?_,.inl hb,fun x c e=>(IB.ok.exf b hb).2 x c e,fun p hp=>absurd (show p∈([] : List (Addr × Obj)) from hp) (by simp)⟩
  rcases List.mem_cons.mp (I3.stkSub b z) with e | e
  ·exact (f3 b hb).2.1 e
  ·exact (f3 b hb).2.2.1 e
 have loop : codeAny (model X.prog X.w) X.A (.compLoop (.ListComp elt [⟨tg,iter,ifs,0⟩] scope pos) 0 (.ref it) (.ref s2.heap.objs.size) (compEnvC scope (cellsFrom (s3.heap.objs.size + 1) scope.names cl) s3.heap.objs.size X.env)) (RR (.ref s2.heap.objs.size) s3.heap.objs.size)
   { s3 with heap:=h₁,toks:=s3.toks }:=by
  refine aAa (B:=blk X NB scope (cellsFrom (s3.heap.objs.size + 1) scope.names cl) s3.heap.objs.size s3 (upd H2 s2.heap.objs.size (.lst [])) fp) rfl hc T (hg _ _ _ _ _) (ht _ _ _ _ _) (he _ _ _ _ _) IB stB fB (hw _ hD) fun σ' H' s' J' q=>?_
  obtain ⟨m,hm,_⟩:=J'.loc
  exact hR _ _ H' s' (I3.fpOk (Nat.le_refl _) J'.free) (I3.unblk J' f3) ⟨m,hm⟩ q
 exact codeAny_compStart_list loop (T.self _ 0 _ _ _ stB loop)
theorem bZ (S : eZ NB src scope X) (hc : X.calm = true) (hi : PI X tg iter wi) (hg : ∀ cl C s₃ H₃ fp,PG (blk X NB scope cl C s₃ H₃ fp) tg g) (ht : ∀ cl C s₃ H₃ fp,PTs (blk X NB scope cl C s₃ H₃ fp) ifs tt)
  (he : ∀ cl C s₃ H₃ fp,PE (blk X NB scope cl C s₃ H₃ fp) elt te) (hs : ∀ x,foldedSetIterable iter X.env x = pure x:=by intro _; rfl) : PE X (.ListComp elt [⟨tg,iter,ifs,0⟩] scope pos) (xP src wi g tt te):=by
 intro pins s σ H Q I h
 obtain ⟨cl,hcl,c1,c2⟩:=jJ I.ok S
 rw [eval_ListComp]
 refine wpAny_comprehension_free (use:=none) (cl:=cl) rfl hs hcl S.kind S.names (thn (hi pins s σ H _ I h) fun v s1 h1=>thn h1 fun itv s2 h2=>?_)
 obtain ⟨it,fp,tn,J,H2,e,I2,T,st2,f2,hw⟩:=h2
 subst e
 refine nQ (RR:=fun acc C=>compPost (model X.prog X.w) X.A X.xe none (EP X pins σ Q) acc C) S hc c1 c2 hg ht he I2 T st2 f2 hw fun D C H' s' fC I' hm q=>?_
 obtain ⟨m,hm⟩:=hm
 refine ⟨m,hm,fun h' sb=>⟨.ref D,H',?_,rfl,q⟩⟩
 obtain ⟨g0,g1,_,g3,g4,g5⟩:=fC
 exact I'.turned (t':=s'.toks) (fun b o hb e=>(sb.2 b hb).trans e) g0 g1 g3 g4 g5
theorem dB {i : Nat} {y : Str} {py spos : Pos} (S : eZ NB src scope X) (hc : X.calm = true) (hi : PI X tg iter wi) (hg : ∀ cl C s₃ H₃ fp,PG (blk X NB scope cl C s₃ H₃ fp) tg g) (ht : ∀ cl C s₃ H₃ fp,PTs (blk X NB scope cl C s₃ H₃ fp) ifs tt)
  (he : ∀ cl C s₃ H₃ fp,PE (blk X NB scope cl C s₃ H₃ fp) elt te) (hN : X.N.Nodup) (hix : X.N[i]? = some y) (hy : X.env.scope.names.lookup y = some .local)
  (hsw : swapsWith (.ListComp elt [⟨tg,iter,ifs,0⟩] scope pos) (some (.Name y py)) spos.line X.env = pure true) (hs : ∀ x,foldedSetIterable iter X.env x = pure x:=by intro _; rfl) :
  PS X (.Assign [.Name y py] (.ListComp elt [⟨tg,iter,ifs,0⟩] scope pos) spos) (tAsg (xP src wi g tt te) (bL i)):=by
 intro pins s σ H D0 I h
 obtain ⟨cl,hcl,c1,c2⟩:=jJ I.ok S
 rw [exec_Assign_Name_used _ _ _ _ hsw]
 refine wpAny_bind (wpAny_standAt (wpAny_bind ?_))
 show wpAny _ X.A (do let _ ← comprehension (.ListComp elt [⟨tg,iter,ifs,0⟩] scope pos) scope X.env _ (newList []) false (eval iter X.env) (some (assign (.Name y py) X.env))) _ _ s
 refine wpAny_bind (wpAny_mono (wpAny_comprehension_free (use:=some (assign (.Name y py) X.env)) (Q:=fun _ s'=>SP X pins D0 .next s') (cl:=cl) rfl hs hcl S.kind S.names
  (thn (hi pins s σ H _ I h) fun v s1 h1=>thn h1 fun itv s2 h2=>?_)) (fun _ s' hq=>wpAny_pure (wpAny_pure hq)) fun _ _ e=>e)
 obtain ⟨it,fp,tn,J,H2,e,I2,T,st2,f2,hw⟩:=h2
 subst e
 refine nQ (RR:=fun acc C=>compPost (model X.prog X.w) X.A X.xe (some (assign (.Name y py) X.env)) (fun _ s'=>SP X pins D0 .next s') acc C) S hc c1 c2 hg ht he I2 T st2 f2 hw fun D C H' s' fC I' hm q=>?_
 obtain ⟨m,hm⟩:=hm
 obtain ⟨g0,g1,_,g3,g4,g5⟩:=fC
 show wpAny _ X.A (assign (.Name y py) X.env (.ref D)) _ _ _
 refine wpAny_assign_Name (qF I' hN hix (.inl hy) (v:=.ref D) rfl (fun s'' I'' sb=>?_) (.inr hy))
 obtain ⟨a,sb,ha⟩:=sb
 have hne : C ≠ a:=by
  rcases ha with z | z
  ·rw [z]; exact g1
  ·exact fun z'=>g4 y a z z'.symm
 refine ⟨m,hm.sameBut sb hne,fun h' sb'=>⟨_,H',I''.turned (t':=s''.toks) (fun b o hb e=>(sb'.2 b hb).trans e) g0 g1 g3 g4 g5,q⟩⟩
end
end L2
namespace L2
open PySem PySem.Spec PyProof.Rows
section
variable {P : Program} {w : World} {K : PySem.W.Frag} {mg : Str→Option Value} {base : Heap} {N : List Str} {qual : Str} {scope : Scope} {f : Addr} {cd : Value} {A : Around} {outer : List Env} {s : Shared} {H : Hp} {E : XK}
end
end L2
namespace L2
open PySem PySem.Spec PyProof.Rows PySem.W
abbrev bmV : List Value:=[.type "ValueError",.type "Exception",.type "BaseException",.type "object"]
structure ECls (K : PySem.W.Frag) (C : Addr) : Prop where
 ex : PySem.W.excIn K C bmV "ValueError.__new__" = true
 kp : PySem.W.keepIn K (.ref C) = true
 ga : PySem.W.findIn K (.ref C) "__getattribute__" = some (some (.builtin "BaseException.__getattribute__"))
 gt : PySem.W.findIn K (.ref C) "__getattr__" = some none
 cl : PySem.W.findIn K (.ref C) "__class__" = some (some (.builtin "object.__class__"))
 mo : PySem.W.mroIn K C (.type "object") = some true
 mb : PySem.W.mroIn K C (.type "BaseException") = some true
 ty : (PySem.W.clsIn K C).isSome = true
def IsX (p : Addr) (C : Value) (h : Heap) : Prop:=∃ o,h.get? p = some o∧o.cls = C
abbrev excO (p : Addr) (C : Value) : HO:=.ext (IsX p C)
theorem bP.get {P : Program} {w : World} {H : Hp} {h : Heap} {a : Addr} {o : HO} (x : bP P w H h a o) : ∃ u,h.get? a = some u:=by
 cases o with
 | lst xs=>obtain ⟨_,_,_,_,e⟩:=x; exact ⟨_,e⟩
 | tup xs=>obtain ⟨_,_,_,ob,e,_⟩:=x; exact ⟨_,e⟩
 | dK kvs=>obtain ⟨_,_,_,_,o,_,_,e,_⟩:=x; exact ⟨_,e⟩
 | dT kvs=>obtain ⟨_,_,_,_,o,_,_,e,_⟩:=x; exact ⟨_,e⟩
 | set S n=>obtain ⟨o,_,_,_,e,_⟩:=x; exact ⟨_,e⟩
 | ins C dx fs=>obtain ⟨_,_,_,e,_⟩:=x; exact ⟨_,e⟩
 | own y=>exact x
 | xd fs=>obtain ⟨_,⟨_,_,_,e,_⟩,_⟩:=x; exact ⟨_,e⟩
 | rng lo hi=>obtain ⟨_,_,_,e⟩:=x; exact ⟨_,e⟩
 | frz ob u=>obtain ⟨e,_⟩:=x; exact ⟨_,e⟩
 | tbl ps=>exact ⟨_,(show h.get? a = some _ from x)⟩
 | met f y=>exact ⟨_,(show h.get? a = some _ from x)⟩
 | ext φ=>exact x.2.1
theorem HOk.freshN {P : Program} {w : World} {H : Hp} {h : Heap} {a : Addr} (x : HOk P w H h) (e : h.get? a = none) : H a = none:=by
 cases q : H a with
 | none=>rfl
 | some u=>obtain ⟨o,z⟩:=(x a u q).get; rw [e] at z; cases z
theorem Inv.laidN {X : Cx} {pins : List (Addr × Obj)} {σ : St} {H : Hp} {s : Shared} {h' : Heap} {a : Addr} {o : HO} {t' : Nat} (I : Inv X pins σ H s) (k : ∀ b u,s.heap.get? b = some u→h'.get? b = some u) (hp : s.heap.get? a = none) (new : bP X.prog X.w (upd H a o) h' a o) :
  Inv X pins σ (upd H a o) { s with heap:=h',toks:=t' }:=by
 have hn:=I.hok.freshN hp
 have ne : ∀ b u,s.heap.get? b = some u→b ≠ a:=fun b u e z=>by rw [z,hp] at e; cases e
 refine I.un ⟨fun b u e _ _ _=>k b u e,fun b u e _ _ _=>⟨u.slots,k b u e⟩,fun b u e n _=>by rw [aH (ne b u e)]; exact n,fun b u e _=>⟨u,k b u e⟩,fun b xs e=>by rw [aH (aJ e hn)]; exact e,fun b u v e=>by rw [aH (aJ e hn)]; exact e,fun b ps e=>⟨#[],by rw [aH (aJ e hn),e]; simp⟩⟩ fun b u e=>?_
 by_cases hb : b = a
 ·subst hb; rw [aD] at e; cases e; exact new
 ·rw [aH hb] at e
  exact (I.hok b u e).stay (fun c v _ q=>k c v q) (fun c q=>by rw [aH (aJ q hn)]; exact q) fun c xs q=>by rw [aH (aJ q hn)]; exact q
section
variable {prog : Program} {w : World} {A : Around} {E : Value→Shared→Prop} {s : Shared} {K : PySem.W.Frag} {x C : Addr} {ox : Obj}
theorem vS {M : Model} {h : Heap} (hx : h.get? x = some ox) (hc : ox.cls = .ref C) : PySem.W.Looks M h (typeOf (.ref x)) (.ref C):=hc ▸ (PySem.W.Looks.ld hx).andThen .now
open Builtin Builtin.ObjectAttr Builtin.Getset_descriptor in
theorem xQ {tp : Value} {R : Result→Shared→Prop} (X : K.In s.heap) (hx : s.heap.get? x = some ox) (hc : ox.cls = .ref C) (hm : PySem.W.mroIn K C (.type "object") = some true)
  (h : R (.ok (.ret (.ref C))) s) : codeAny (model prog w) A (.call (.builtin "getset_descriptor.__get__") ⟨[.builtin "object.__class__",.ref x,tp],[]⟩) R s:=by
 obtain ⟨hh,g,dr,t,os⟩:=s
 have L0:=vS (M:=model prog w) hx hc
 have L1:=looks_mroIn (M:=model prog w) X hm
 refine codeAny_call_builtin KF.slot_gs.plain KF.entry_gs (KF.slot_gs.check _ _ _ _ _ _ _ _ KF.type_class (KF.args_gs _ _ _) ?_)
 unfold Builtin.«getset_descriptor.__get__» descrGet
 rw [dga_obj]
 refine wpAny_bind (wpAny_pure ?_)
 unfold descrGetter descrCheckInstance descrNameAndClass isInstance
 simp only [KF.owner_class]
 repeat lk
 refine ⟨Code.quiet_builtin _ (by decide +kernel),codeAny_builtin KF.entry_class ?_⟩
 unfold Builtin.«object.__class__» shownTypeOf
 repeat lk
 exact h
theorem aAb {tk : Tok} {Q : Fin→Shared→Prop} {h : Heap} {g d t os} (T : ECls K C) (X : K.In h) (hx : h.get? x = some ox) (hc : ox.cls = .ref C) (hq : Q (.done (.ret (.ref C))) ⟨h,g,d,t,os⟩) :
  wpAny (model prog w) A (Builtin.«object.__getattribute__» ⟨[.ref x,.str "__class__" tk],[]⟩) Q E ⟨h,g,d,t,os⟩:=by
 have f5:=F.typeOf_bexc_args
 have hT5 : (⟨h,g,d,t,os⟩ : Shared).TypeIs (.builtin "object.__class__") "getset_descriptor" := PySem.F.typeOf_object_class
 have f5':=PySem.F.typeOf_object_class
 have f6:=F.slot_gs_get.lookup
 have f7:=F.slot_gs_set.lookup
 have L1:=looks_findIn (M:=model prog w) X T.cl
 repeat (any_goals (first | assumption | (with_reducible refine wpAny_loadPart_at hx ?_; rw [hc]) | with_reducible refine L1.at ?_ | wp_step))
 refine xQ (s:=⟨h,g,d,t,os⟩) X hx hc T.mo ?_
 repeat (any_goals (first | assumption | wp_step))
theorem aAc {M : Model} {nameV : Value} {Q : Unit→Shared→Prop} {h : Heap} {g d t os} (T : ECls K C) (X : K.In h) (hx : h.get? x = some ox) (hc : ox.cls = .ref C) (hq : Q () ⟨h,g,d,t,os⟩) :
  wpAny M A (checkBuiltinCall "BaseException.__getattribute__" ⟨[.ref x,nameV],[]⟩) Q E ⟨h,g,d,t,os⟩:=by
 have hk : builtinKind "BaseException.__getattribute__" = some .slot:=by decide +kernel
 have hsplit : splitId "BaseException.__getattribute__" = some ("BaseException", "__getattribute__"):=by decide +kernel
 have ha:=F.args_bexc_ga (.ref x) nameV
 have L1:=looks_mroIn (M:=M) X T.mb
 simp only [checkBuiltinCall,hk,hsplit]
 refine wpAny_bind ?_
 ·unfold isInstance
  repeat (first | (with_reducible refine wpAny_loadPart_at hx ?_; rw [hc]) | with_reducible refine L1.at ?_ | wp_step)
  exact hq
theorem aDJ {tk : Tok} {fill expr : Bool} {Q : Value→Shared→Prop} {h : Heap} {g d t os} (T : ECls K C) (X : K.In h) (hx : h.get? x = some ox) (hc : ox.cls = .ref C) (hq : Q (.ref C) ⟨h,g,d,t,os⟩) :
  wpAny (model prog w) A (getAttrBy (.ref x) (.str "__class__" tk) fill expr) Q E ⟨h,g,d,t,os⟩:=by
 have f3:=F.attr_ValueError.ga.bind (.ref x)
 have hx0 : (expr && onTheHeap (Value.builtin "BaseException.__getattribute__")) = false:=by cases expr <;> rfl
 have hx2 : (Value.builtin "BaseException.__getattribute__" == Value.builtin "object.__getattribute__") = false:=by decide +kernel
 have hx1 : (onTheHeap (Value.ref C) && Value.builtin "BaseException.__getattribute__" == Value.builtin "object.__getattribute__") = false:=by rw [hx2]; rfl
 have L1:=looks_findIn (M:=model prog w) X T.ga
 have L2:=looks_findIn (M:=model prog w) X T.gt
 repeat (any_goals (first | assumption | (with_reducible refine wpAny_loadPart_at hx ?_; rw [hc]) | with_reducible refine L1.at ?_ | with_reducible refine L2.at ?_ | wp_step))
 refine codeAny_call_builtin F.attr_ValueError.ga.plain F.entry_bexc_ga (aAc T X hx hc (aAb T X hx hc ?_))
 repeat (any_goals (first | assumption | wp_step))
theorem aBo {Q : Option Value→Shared→Prop} {h : Heap} {g d t os} (T : ECls K C) (X : K.In h) (hx : h.get? x = some ox) (hc : ox.cls = .ref C) (hq : Q (some (.ref C)) ⟨h,g,d,t + 1,os⟩) :
  wpAny (model prog w) A (getAttr? (.ref x) "__class__") Q E ⟨h,g,d,t,os⟩:=by
 unfold getAttr?
 repeat (any_goals (first | assumption | with_reducible apply aDJ T X hx hc | wp_step))
theorem aBp (T : ECls K C) : PySem.W.KitX K (.ref x) (.ref C) (IsX x (.ref C)) where
 ty:=fun _ _ _ ⟨o,e,c⟩=>vS e c
 it:=fun _ _ X _=>by
  obtain ⟨cdD,hcD⟩:=Option.isSome_iff_exists.mp T.ty
  unfold clsIn at hcD
  split at hcD
  ·rename_i c' d' cd' sl' ho
   intro A' Q' E' s' k q
   unfold isType loadHead
   exact wpAny_bind (wpAny_loadPart (k _ _ (X _ _ ho)) (wpAny_pure q))
  ·cases hcD
 ne:=fun h tp dd its n sl X htp=>by
  obtain ⟨cdD,hcD⟩:=Option.isSome_iff_exists.mp T.ty
  refine Bool.eq_false_iff.mpr fun q=>?_
  have e : C = tp:=Value.ref.inj (beq_iff_eq.mp q)
  subst e
  unfold clsIn at hcD
  split at hcD
  ·rename_i c' d' cd' sl' ho
   have z:=(X _ _ ho).symm.trans htp
   cases z
  ·cases hcD
 ca:=fun {_ _ _ _ _ s} X ⟨o,e,c⟩ k=>by
  obtain ⟨h,g,d,t,os⟩:=s
  exact aBo T X e c k
end
section
variable {X : Cx}
inductive TyX (K : PySem.W.Frag) (H : Hp) : V→Value→Prop where
 | of {v : V} {t : Value} (h : TyOf K H v t) : TyX K H v t
 | exc {p C : Addr} (T : ECls K C) (e : H p = some (excO p (.ref C))) : TyX K H (.ref p) (.ref C)
def rIsi (K : PySem.W.Frag) : List V→Hp→VK→Prop:=fun xs H Q=>∃ x c cv t b,xs = [x,c]∧(c = .ty cv∧PySem.W.kitOne K t (.type cv) = some b)∧TyX K H x t∧Q (.bl b) H
theorem dM : cI X (.builtin "isinstance") (rIsi X.K):=by
 intro pins s σ H xs us Q I r h
 obtain ⟨x,c,cv,t,b,rfl,⟨rfl,e⟩,ty,q⟩:=h
 obtain ⟨u1,u2,rfl,r1,r2⟩:=r.two
 obtain rfl : u2 = Value.type cv:=r2
 cases ty with
 | of ty=>exact zS I r1 ty e fun tk=>⟨.bl b,H,I.tok tk,rfl,q⟩
 | @exc p C T ea =>
  obtain rfl : u1 = Value.ref p:=r1
  have p1 : IsX p (.ref C) s.heap:=(I.hok p _ ea).1
  exact PySem.W.kia_one (aBp T) I.kIn p1 e (fun z=>nomatch z) fun tk=>⟨.bl b,H,I.tok tk,rfl,q⟩
end
section
variable {X : Cx} {x : Str} {C : Addr} {np cpos pos : Pos} {e : Expr} {es : List Expr} {t : TA}
end
end L2
namespace L2
open PySem PySem.Spec PyProof.Rows
section
variable {X : Cx} {CX : CXT} {k : Nat} {f C : Addr} {fd : FuncData} {ps : List Str} {sp : Sp} {dvs : List V} {ds : List Value} {E : St→XK} {x m : Str} {p pos apos : Pos} {e o : Expr} {es : List Expr} {ta : TE} {t : TA}
end
section
variable {X : Cx} {CX : CXT} {k : Nat} {f : Addr} {fd : FuncData} {ps : List Str} {sp : Sp} {dvs : List V} {ds : List Value} {E : XK} {x : Str} {p pos : Pos} {e : Expr} {es : List Expr} {t : TA}
end
section
variable {P : Program} {w : World} {K : PySem.W.Frag} {mg : Str→Option Value} {base : Heap}
end
end L2
namespace L2
open PySem PySem.Spec PyProof.Rows
section
variable {X : Cx} {pins : List (Addr × Obj)} {σ : St} {H : Hp} {s : Shared}
end
end L2
namespace L2
open PySem PySem.Spec PyProof.Rows PySem.W
theorem aCD {h : Heap} {a : Addr} {m m' : Str→Option Value} (x : h.Ns a m) (y : h.Ns a m') : m = m':=by
 obtain ⟨o,es,ep,e,d,_,q⟩:=x
 obtain ⟨o',es',ep',e',d',_,q'⟩:=y
 rw [e] at e'; cases e'
 rw [d] at d'; cases d'
 funext z
 rw [← q z,q' z]
theorem Inv.fromK {X : Cx} {pins : List (Addr × Obj)} {σ : St} {H : Hp} {s : Shared} {h' : Heap} {m : Str→Option Value} {D : Addr} {o : HO} {t' : Nat} (I : Inv X pins σ H s) (F : Fr X.base X.env.locals s.heap m) (F' : Fr X.base X.env.locals h' m)
  (N' : News X.base X.env.locals h' (fQ X.base s.heap X.env.locals)) (hD : s.heap.get? D = none) (new : bP X.prog X.w (upd H D o) h' D o) : Inv X pins σ (upd H D o) { s with heap:=h',toks:=t' }:=by
 have hn:=I.hok.freshN hD
 have ne : ∀ b u,s.heap.get? b = some u→b ≠ D:=fun b u e z=>by rw [z,hD] at e; cases e
 have keep : ∀ b u,b ≠ X.env.locals→s.heap.get? b = some u→h'.get? b = some u:=fun b u hb e=>by
  cases q : X.base.get? b with
  | some v =>
   have:=I.bk b v q
   rw [e] at this; cases this
   exact F'.keep b _ q
  | none=>exact (N' (b,u) (iP hb q e)).1
 refine I.step (g':=s.gens) (d':=s.drawn) (ch:=[]) (fun _ z=>absurd z (by simp)) (fun b u hb _ _ e _=>keep b u hb e) (fun b u hb _ _ e _=>⟨u.slots,keep b u hb e⟩) (fun b u _ e n=>by rw [aH (ne b u e)]; exact n) (fun b u _ e=>?_)
  (fun b xs e=>by rw [aH (aJ e hn)]; exact e) (fun b u v e=>by rw [aH (aJ e hn)]; exact e) (fun b ps e=>⟨#[],by rw [aH (aJ e hn),e]; simp⟩) (fun m1 hm=>by rw [aCD hm F.ns]; exact F'.ns) (fun b u e=>?_) I.bare
 ·by_cases hb : b = X.env.locals
  ·obtain ⟨o',_,_,q,_⟩:=F'.ns
   exact ⟨o',by rw [hb]; exact q⟩
  ·exact ⟨u,keep b u hb e⟩
 ·by_cases hb : b = D
  ·subst hb; rw [aD] at e; cases e; exact new
  ·rw [aH hb] at e
   refine (I.hok b u e).stay (fun c v hc q=>keep c v ?_ q) (fun c q=>by rw [aH (aJ q hn)]; exact q) fun c xs q=>by rw [aH (aJ q hn)]; exact q
   rintro rfl
   rcases hc with z | hc
   ·have f:=I.free; rw [z,e] at f; cases f
   ·rw [I.free] at hc; cases hc
theorem rC {X : Cx} {pins : List (Addr × Obj)} {σ : St} {H : Hp} {s : Shared} {h' : Heap} {D : Addr} {o : Obj} (I : Inv X pins σ H s) (N : News X.base X.env.locals h' ((D,o) :: fQ X.base s.heap X.env.locals)) (hlt : ∀ q∈fQ X.base s.heap X.env.locals,q.1 < D) : s.heap.get? D = none:=by
 cases e : s.heap.get? D with
 | none=>rfl
 | some u =>
  obtain ⟨_,n1,n2⟩:=N (D,o) List.mem_cons_self
  exact absurd (hlt (D,u) (iP n1 n2 e)) (Nat.lt_irrefl _)
end L2
namespace L2
open PySem PySem.Spec PyProof.Rows PySem.W
def aAd (K : PySem.W.Frag) (H : Hp) (a : Addr) (y : Int × Int) : Prop:=SqT K H a [.int y.1,.int y.2]
section
variable {X : Cx}
theorem xR {pins : List (Addr × Obj)} {σ : St} {H : Hp} {s : Shared} {a : Addr} {y : Int × Int} (I : Inv X pins σ H s) (h : aAd X.K H a y) : ∃ o n t u,s.heap.get? a = some o∧o.cls = .type "tuple" ∧ o.data = .seq #[.int y.1 t,.int y.2 u] n:=by
 obtain ⟨its,r,p,_⟩:=I.tuple h
 obtain ⟨u1,u2,rfl,r1,r2⟩:=r.two
 obtain ⟨t,rfl⟩:=r1
 obtain ⟨t',rfl⟩:=r2
 obtain ⟨o,e,c,n,d⟩:=p
 exact ⟨o,n,t,t',e,c,d⟩
end
end L2
namespace L2
open PySem PySem.Spec PyProof.Rows PySem.W
def hAt (hs : Array Int) (i : Nat) : Int:=(hs[i]?).getD 0
def dW (hs : Array Int) (t : SetTable) (h : Int) : Option (Array Int × SetTable) :=
 if t.gaveWay then none else
 match t.probe (hAt hs) h (t.probeStart h) with
 | some (.empty j none) =>
  let q:=t.put j
  let hs1:=SetTable.insertAt hs q.2 h
  if q.1.fits hs1.size && decide (hs1.size ≤ 4096) then
   if q.1.tooFull then
    (match q.1.relaid hs1 (SetTable.grown (hs.size + 1)) with
    | some (t2,order) =>
     let hs2:=order.filterMap (hs1[·]?)
     if hs2.size == hs1.size && t2.fits hs2.size && decide (SetTable.sizeAbove (SetTable.grown (hs.size + 1)) ≤ 4096) then some (hs2,t2) else none
    | none=>none)
   else some (hs1,q.1)
  else none
 | _=>none
def nR (led : Bool) : List Int→Option (Array Int × SetTable):=fun l=>l.foldlM (fun q h=>dW q.1 q.2 h) (#[],SetTable.fresh 0 0 led)
def fJ (h : Heap) (S : Addr) (hs : Array Int) (t : SetTable) : Prop:=∃ o es ep,h.get? S = some o∧o.cls = .type "set" ∧ (o.dict = none∧o.slots = #[])∧o.data = .set es ep t∧es.map (·.1) = hs∧t.fits es.size = true
section
variable {prog : Program} {w : World} {A : Around} {E : Value→Shared→Prop} {s : Shared} {S : Addr}
theorem aDK (es : Array (Int × Value)) : (fun i=>(es[i]?.map (·.1)).getD 0) = hAt (es.map (·.1)):=by
 funext i
 unfold hAt
 rw [Array.getElem?_map]
theorem kI (es : Array (Int × Value)) (p : Nat) (x : Int × Value) : (SetTable.insertAt es p x).map (·.1) = SetTable.insertAt (es.map (·.1)) p x.1:=by
 unfold SetTable.insertAt
 simp
theorem kJ (es : Array (Int × Value)) (order : Array Nat) : (order.filterMap (es[·]?)).map (·.1) = order.filterMap ((es.map (·.1))[·]?):=by
 apply Array.ext'
 rw [Array.toList_map,Array.toList_filterMap,Array.toList_filterMap,List.map_filterMap]
 congr 1
 funext i
 rw [Array.getElem?_map]
theorem xS {hs : Array Int} {t : SetTable} {h : Int} {x : Value} {j : Nat} {Q : SetFound→Shared→Prop} (hS : fJ s.heap S hs t) (hg : t.gaveWay = false) (hp : t.probe (hAt hs) h (t.probeStart h) = some (.empty j none)) (q : Q (.free j false) s) :
  wpAny (model prog w) A (setSearch S x h true) Q E s:=by
 obtain ⟨o,es,ep,ho,hc,hdi,hd,hm,hf⟩:=hS
 unfold setSearch setSearchFrom
 refine wpAny_bind (wpAny_setState_of ho hd hf ?_)
 dsimp only
 rw [hg,if_neg Bool.false_ne_true]
 have hp' : t.probe (fun i=>(es[i]?.map (·.1)).getD 0) h (t.probeStart h) = some (.empty j none):=by rw [aDK,hm]; exact hp
 refine wpAny_bind (wpAny_pure ?_)
 erw [hp']
 exact wpAny_pure q
theorem aAe {a : Addr} {o : Obj} {n : Nat} {x y : Int} {t u : Tok} {Q : Bool→Shared→Prop} (ho : s.heap.get? a = some o) (hc : o.cls = .type "tuple") (hd : o.data = .seq #[.int x t,.int y u] n) (q : Q true s) :
  wpAny (model prog w) A (hashByValue 8 (.ref a)) Q E s:=by
 have hT : s.TypeIs (.ref a) "tuple" := ⟨_,ho,hc⟩
 unfold hashByValue
 refine wpAny_bind (wpAny_specialOf hT PySem.F.slot_tuple_hash.lookup ?_)
 refine wpAny_bind (wpAny_seqItems ho hd ?_)
 refine wpAny_bind ?_
 show wpAny _ _ (forIn #[Value.int x t,Value.int y u] _ _) _ _ s
 rw [← Array.forIn_toList]
 refine wpAny_forIn_list _ (fun rest r s'=>r.1 = none∧s' = s∧∀ v∈rest,∃ z k,v = Value.int z k) _ ?_ ?_ _ _ ⟨rfl,rfl,fun v hv=>?_⟩
 ·rintro v rest r s' ⟨hr,rfl,hall⟩
  obtain ⟨z,k,rfl⟩:=hall v List.mem_cons_self
  refine wpAny_bind (wpAny_pure ?_)
  exact wpAny_pure ⟨rfl,rfl,fun u' hu'=>hall u' (List.mem_cons_of_mem _ hu')⟩
 ·rintro ⟨r1,r2⟩ s' ⟨hr,rfl,_⟩
  have hr' : r1 = none:=hr
  subst hr'
  exact wpAny_pure q
 ·rcases List.mem_cons.mp hv with z | z
  ·exact ⟨_,_,z⟩
  ·rcases List.mem_cons.mp z with z | z
   ·exact ⟨_,_,z⟩
   ·cases z
theorem vT {hs : Array Int} {t t' : SetTable} {es' : Array (Int × Value)} (hS : fJ s.heap S hs t) (hf : t'.fits es'.size = true) (hz : es'.size ≤ 4096) {Q : Unit→Shared→Prop}
  (q : ∀ h',Heap.SameBut S s.heap h'→fJ h' S (es'.map (·.1)) t'→Q () { s with heap:=h' }) : wpAny (model prog w) A (storeSet S es' t') Q E s:=by
 obtain ⟨o,es,ep,ho,hc,hdi,hd,hm,_⟩:=hS
 refine wpAny_storeSet_of ho hd (q _ (Heap.SameBut.update s.heap S (Obj.putSet es' t')) ?_) (Nat.le_trans hz (by decide))
 have g:=Heap.get?_update_self (Obj.putSet es' t') ho (by rw [putSet_of es' t' hd]; rfl)
 rw [putSet_of es' t' hd] at g
 exact ⟨_,es',ep + 1,g,hc,hdi,rfl,rfl,hf⟩
theorem aCE {hs hs' : Array Int} {t t' : SetTable} {a : Addr} {o : Obj} {n : Nat} {x y : Int} {tx ty : Tok} {Q : Bool → Shared → Prop} (hu : A.units < cLine) (hS : fJ s.heap S hs t) (ho : s.heap.get? a = some o) (hc : o.cls = .type "tuple") (hd : o.data = .seq #[.int x tx, .int y ty] n) (hne : a ≠ S)
    (hst : dW hs t (tupleKeyHash (intKind prog w) [x, y]) = some (hs', t')) (q : ∀ h' tk, Heap.SameBut S s.heap h' → fJ h' S hs' t' → Q true { s with heap := h', toks := tk }) : wpAny (model prog w) A (setAdd S (.ref a)) Q E s := by
  have hk : IsTupleKey (intKind prog w) s.heap [x, y] a := ⟨o, _, n, ho, hc, hd, .cons (intKind_is _ _ _ _) (.cons (intKind_is _ _ _ _) .nil)⟩
  unfold setAdd
  refine wpAny_holding (wpAny_bind (wpAny_pyHash_tuple hu hk ?_))
  generalize htk : s.toks + ([x, y].length + 1) = tk
  generalize hh : tupleKeyHash (intKind prog w) [x, y] = h at hst ⊢
  have hS0 := hS
  obtain ⟨ob, es, ep, hb, hbc, hbd, hbe, hm, hf⟩ := hS
  unfold setAddHashed setAddHashedIn
  refine wpAny_holding (wpAny_bind (wpAny_setState_of (s := { s with toks := tk }) hb hbe hf ?_))
  dsimp only
  have hbs : byScan (.ref a) es = false := by unfold byScan; rfl
  rw [hbs, if_neg Bool.false_ne_true]
  unfold dW at hst
  cases hg : t.gaveWay with
  | true => rw [hg, if_pos rfl] at hst; cases hst
  | false =>
    rw [hg, if_neg Bool.false_ne_true] at hst
    split at hst
    · rename_i j hp
      dsimp only at hst
      split at hst
      · rename_i hfz
        rw [Bool.and_eq_true, decide_eq_true_eq] at hfz
        refine wpAny_bind (xS (s := { s with toks := tk }) hS0 hg hp ?_)
        dsimp only
        refine wpAny_bind (wpAny_setState_of (s := { s with toks := tk }) hb hbe hf ?_)
        dsimp only
        have byv : ∀ {kk : Bool → Sem Bool}, wpAny (model prog w) A (kk true) Q E { s with toks := tk } → wpAny (model prog w) A (if (t.put j).1.plain = true then hashByValue 8 (.ref a) >>= kk else pure true >>= kk) Q E { s with toks := tk } := fun {kk} hP => by
          split
          · exact wpAny_bind (aAe (s := { s with toks := tk }) ho hc hd hP)
          · exact wpAny_bind (wpAny_pure hP)
        refine byv ?_
        simp only [if_true]
        have hsz : (SetTable.insertAt es (t.put j).2 (h, Value.ref a)).size = (SetTable.insertAt hs (t.put j).2 h).size := by
          rw [← hm, ← kI es (t.put j).2 (h, Value.ref a), Array.size_map]
        refine wpAny_bind (vT (s := { s with toks := tk }) hS0 (by rw [hsz]; exact hfz.1) (by rw [hsz]; exact hfz.2) fun h1 sb1 S1 => ?_)
        rw [kI, hm] at S1
        split at hst
        · rename_i htf
          rw [show (!false && (t.put j).1.tooFull) = true by rw [htf]; rfl, if_pos rfl]
          split at hst
          · rename_i t2 order hr
            split at hst
            · rename_i hq
              rw [Bool.and_eq_true, Bool.and_eq_true, decide_eq_true_eq, beq_iff_eq] at hq
              obtain ⟨⟨hq1, hq2⟩, hq3⟩ := hq
              cases hst
              have hes : es.size = hs.size := by rw [← hm, Array.size_map]
              refine wpAny_bind ?_
              unfold setRelay
              obtain ⟨o1, es1, ep1, g1, g2, g3, g4, g5, g6⟩ := id S1
              refine wpAny_bind (wpAny_setState_of (s := { s with heap := h1, toks := tk }) g1 g4 g6 ?_)
              dsimp only
              rw [hes]
              rw [if_neg (by have h4 : (4096 : Nat) ≤ sizeLine := by decide
                             lia)]
              refine wpAny_bind ?_
              rw [g5, hr]
              have hsz2 : (order.filterMap (es1[·]?)).size = es1.size := by
                have e1 := congrArg Array.size (kJ es1 order)
                rw [Array.size_map, g5] at e1
                rw [e1, hq1, ← g5, Array.size_map]
              refine wpAny_of_eq (show _ = (pure (order.filterMap (es1[·]?), t') : Sem (Array (Int × Value) × SetTable)) from ?_) ?_
              · show (do
                  let es' := order.filterMap (es1[·]?)
                  if es'.size != es1.size then unsupported "internal:set-table-lost-an-element"
                  pure (es', t') : Sem (Array (Int × Value) × SetTable)) = _
                simp [hsz2]
              dsimp only
              have hle : es1.size ≤ 4096 := by
                have e1 := congrArg Array.size g5
                rw [Array.size_map] at e1
                rw [e1]
                exact hfz.2
              have hfm : (order.filterMap (es1[·]?)).size = (order.filterMap ((SetTable.insertAt hs (t.put j).2 h)[·]?)).size := by
                have e1 := congrArg Array.size (kJ es1 order)
                rw [Array.size_map, g5] at e1
                exact e1
              refine vT (s := { s with heap := h1, toks := tk }) S1 (by rw [hfm]; exact hq2) (by rw [hsz2]; exact hle) fun h2 sb2 S2 => ?_
              rw [kJ, g5] at S2
              exact wpAny_pure (q h2 tk (sb1.trans sb2) S2)
            · cases hst
          · cases hst
        · rename_i htf
          cases hst
          have htf' : (t.put j).1.tooFull = false := by simpa using htf
          rw [show (!false && (t.put j).1.tooFull) = false by rw [htf']; rfl, if_neg Bool.false_ne_true]
          exact wpAny_pure (q h1 tk sb1 S1)
      · cases hst
    · cases hst
end
end L2
namespace L2
open PySem PySem.Spec PyProof.Rows PySem.W
section
variable {prog : Program} {w : World} {A : Around} {E : Value→Shared→Prop} {s : Shared} {S Ia l : Addr} {R : Result→Shared→Prop}
def fU (h : Heap) (vs : List Value) (ys : List (Int × Int)) : Prop:=vs.length = ys.length∧∀ i v,vs[i]? = some v→∃ a o n t u,v = .ref a∧h.get? a = some o∧o.cls = .type "tuple" ∧ o.data = .seq #[.int (ys.getD i (0,0)).1 t,.int (ys.getD i (0,0)).2 u] n
theorem fU.keeps {h h' : Heap} {vs : List Value} {ys : List (Int × Int)} (p : fU h vs ys) (k : ∀ b o,(∃ xs n,o.data = .seq xs n)→h.get? b = some o→h'.get? b = some o) : fU h' vs ys :=
 ⟨p.1,fun i v e=>let ⟨a,o,n,t,u,e1,e2,c,d⟩:=p.2 i v e; ⟨a,o,n,t,u,e1,k a o ⟨_,_,d⟩ e2,c,d⟩⟩
def dN (prog : Program) (w : World) (y : Int × Int) : Int:=tupleKeyHash (intKind prog w) [y.1,y.2]
theorem aBq {vs : List Value} {ys : List (Int × Int)} {hsN : Array Int} {tN : SetTable} (hh : A.handled = none) (hu : A.units + 1 < cLine) (hlS : l ≠ S) (hlI : l ≠ Ia) (hSI : S ≠ Ia) :
  ∀ (k i : Nat) (s : Shared) (hs : Array Int) (t : SetTable),vs.length - i = k→i ≤ vs.length→s.heap.IsListIter Ia l i→s.heap.IsList l vs.toArray→fU s.heap vs ys→fJ s.heap S hs t →
   ((ys.drop i).map (dN prog w)).foldlM (fun q h=>dW q.1 q.2 h) (hs,t) = some (hsN,tN) →
   (∀ h' tk,(∀ b o,b ≠ S→b ≠ Ia→s.heap.get? b = some o→h'.get? b = some o)→fJ h' S hsN tN→R (.ok (.ret .none)) { s with heap:=h',toks:=tk }) →
   codeAny (model prog w) A (.builtin "set.update.loop" ⟨[.ref S,.ref Ia],[]⟩) R s:=by
 intro k
 induction k with
 | zero =>
  intro i s hs t hk hi hit hl hp hS hf hR
  have e : i = vs.length:=by lia
  refine codeAny_builtin PyProof.Rows.F.entry_set_update_loop ?_
  rw [Around.under_plainId PyProof.Rows.F.plain_set_update_loop _]
  show wpAny _ A.in1 (pyNext (.ref Ia) >>= _) _ _ s
  refine wpAny_bind (wpAny_pyNext_list_end (show A.in1.handled = none from hh) hit hl (by simp; lia) fun h' eb=>?_)
  show wpAny _ A.in1 (ret Value.none) _ _ _
  have hd : ys.drop i = []:=by rw [List.drop_eq_nil_iff]; have:=hp.1; lia
  rw [hd] at hf
  cases hf
  obtain ⟨o,es,ep,q1,q2⟩:=hS
  exact wpAny_pure (hR h' s.toks (fun b o hb hbI e=>eb b o hbI e) ⟨o,es,ep,eb S o hSI q1,q2⟩)
 | succ k ih =>
  intro i s hs t hk hi hit hl hp hS hf hR
  have hlt : i < vs.length:=by lia
  refine codeAny_builtin PyProof.Rows.F.entry_set_update_loop ?_
  rw [Around.under_plainId PyProof.Rows.F.plain_set_update_loop _]
  show wpAny _ A.in1 (pyNext (.ref Ia) >>= _) _ _ s
  have hv : vs[i]? = some vs[i]:=List.getElem?_eq_getElem hlt
  refine wpAny_bind (wpAny_pyNext_list_item hit hl (x:=vs[i]) (by simpa using hv) fun h1 hit1 sb1=>?_)
  obtain ⟨a,o,n,tx,ty,ea,eo,ec,ed⟩:=hp.2 i _ hv
  rw [ea]
  have neI : ∀ b ob,(∃ xs n,ob.data = .seq xs n)→s.heap.get? b = some ob→b ≠ Ia:=fun b ob ⟨xs,m,z⟩ e z'=>by
   obtain ⟨oi,e1,_,d1⟩:=hit
   rw [z',e1] at e; cases e
   rw [d1] at z; cases z
  have hp1 : fU h1 vs ys:=hp.keeps fun b ob hb e=>(sb1.2 b (neI b ob hb e)).trans e
  have hS1 : fJ h1 S hs t:=by
   obtain ⟨oS,es,ep,q1,q2⟩:=hS
   exact ⟨oS,es,ep,(sb1.2 S hSI).trans q1,q2⟩
  have hl1 : h1.IsList l vs.toArray:=by
   obtain ⟨ol,q1,q2⟩:=hl
   exact ⟨ol,(sb1.2 l hlI).trans q1,q2⟩
  have eo1 : h1.get? a = some o:=(sb1.2 a (neI a o ⟨_,_,ed⟩ eo)).trans eo
  have neS : ∀ b ob,(∃ xs n,ob.data = .seq xs n)→h1.get? b = some ob→b ≠ S:=fun b ob ⟨xs,m,z⟩ e z'=>by
   obtain ⟨oS,es,ep,q1,_,_,q4,_⟩:=hS1
   rw [z',q1] at e; cases e
   rw [q4] at z; cases z
  have hi2 : i < ys.length:=by have:=hp.1; lia
  have hdr : ys.drop i = ys[i] :: ys.drop (i + 1):=List.drop_eq_getElem_cons hi2
  have hgy : ys.getD i (0,0) = ys[i]:=by rw [List.getD_eq_getElem?_getD,List.getElem?_eq_getElem hi2]; rfl
  rw [hdr,List.map_cons,List.foldlM_cons] at hf
  cases hst : dW hs t (dN prog w ys[i]) with
  | none=>rw [hst] at hf; cases hf
  | some q =>
   obtain ⟨hs2,t2⟩:=q
   rw [hst] at hf
   have hf2 : ((ys.drop (i + 1)).map (dN prog w)).foldlM (fun q h=>dW q.1 q.2 h) (hs2,t2) = some (hsN,tN):=hf
   show wpAny _ A.in1 (holding [Value.ref a] (setAdd S (.ref a)) >>= _) _ _ _
   refine wpAny_bind (wpAny_holding (aCE (s:={ s with heap:=h1 }) (by show A.units + 1 < cLine; exact hu) hS1 eo1 ec ed (neS a o ⟨_,_,ed⟩ eo1) (hs':=hs2) (t':=t2) (by rw [hgy]; exact hst) fun h2 tk sb2 S2=>?_))
   refine wpAny_pure ⟨plainId_quiet PyProof.Rows.F.plain_set_update_loop _,?_⟩
   refine ih (i + 1) { s with heap:=h2,toks:=tk } hs2 t2 (by lia) hlt ?_ ?_ (hp1.keeps fun b ob hb e=>(sb2.2 b (neS b ob hb e)).trans e) S2 hf2 fun h3 tk3 k3 S3=>?_
   ·obtain ⟨oi,q1,q2⟩:=hit1
    exact ⟨oi,(sb2.2 Ia (Ne.symm hSI)).trans q1,q2⟩
   ·obtain ⟨ol,q1,q2⟩:=hl1
    exact ⟨ol,(sb2.2 l hlS).trans q1,q2⟩
   ·exact hR h3 tk3 (fun b ob hb hbI e=>k3 b ob hb hbI ((sb2.2 b hb).trans ((sb1.2 b hbI).trans e))) S3
theorem aBr {vs : List Value} {ys : List (Int × Int)} {hsN : Bool→Array Int} {tN : Bool→SetTable} {Q : Value→Shared→Prop} (hh : A.handled = none) (hu : A.units + 8 < cLine) (hl : s.heap.IsList l vs.toArray) (hp : fU s.heap vs ys)
  (hrun : ∀ led,nR led (ys.map (dN prog w)) = some (hsN led,tN led))
  (h : ∀ (led : Bool) (h' : Heap) (tk : Nat),fJ h' s.heap.objs.size (hsN led) (tN led)→(∀ b o,b < s.heap.objs.size→s.heap.get? b = some o→h'.get? b = some o)→Q (.ref s.heap.objs.size) { s with heap:=h',toks:=tk }) :
  wpAny (model prog w) A (call (.type "set") [.ref l]) Q E s:=by
 obtain ⟨c,tl,hmro⟩:=PySem.F.called_set.mro
 have c1:=PySem.F.called_set.made
 have c2:=PySem.F.called_set.sub
 refine wpAny_call (codeAny_of_tree ?_)
 show wpAny _ _ (callAny (.type "set") _) _ _ _
 refine wpAny_pure ⟨Code.quiet_builtin _ (by decide +kernel),codeAny_builtin PySem.F.entry_type_call ?_⟩
 rw [Around.under_plain (weight_type_call_type "set" [.ref l] []) rfl]
 have c3:=PySem.F.called_set.notType
 have c4:=PySem.F.called_set.canCreate
 have c5:=PySem.F.typeCall_set_1 (.ref l)
 repeat (any_goals (first | assumption | wp_step))
 refine codeAny_mono (code_set_new_1 (.ref l) (E:=E) (Q₁:=fun obj s₁=>∃ led : Bool,obj = .ref s.heap.objs.size∧s₁ = { s with heap:=s.heap.push { cls:=.type "set",dict:=none,data:=.set #[] 0 (.fresh 0 0 led) } }) fun led=>⟨led,rfl,rfl⟩) fun r s₁ hr=>?_
 cases r with
 | error e=>exact hr
 | ok fl =>
  cases fl with
  | next=>exact hr.elim
  | brk=>exact hr.elim
  | cont=>exact hr.elim
  | ret obj =>
   obtain ⟨led,rfl,rfl⟩:=hr
   generalize hpu : s.heap.push { cls:=.type "set",dict:=none,data:=.set #[] 0 (.fresh 0 0 led) } = hS
   have hsz : hS.objs.size = s.heap.objs.size + 1:=by rw [← hpu,Heap.size_push]
   have gS : hS.get? s.heap.objs.size = some { cls:=.type "set",dict:=none,data:=.set #[] 0 (.fresh 0 0 led) }:=by rw [← hpu]; exact Heap.get?_push_size _ rfl
   have up : ∀ b o,s.heap.get? b = some o→hS.get? b = some o:=fun b o e=>by rw [← hpu]; exact Heap.get?_push_of_some _ e
   have hT : Shared.TypeIs { s with heap:=hS } (.ref s.heap.objs.size) "set" := ⟨_,gS,rfl⟩
   have c6:=PySem.F.called_set.init.lookup
   have c7:=PySem.F.called_set.init.bind (.ref s.heap.objs.size)
   repeat (any_goals (first | assumption | wp_step))
   refine codeAny_mono (codeAny_call_builtin (R:=wants (fun r s₂=>r = .none∧∃ h' tk,s₂ = { s with heap:=h',toks:=tk }∧fJ h' s.heap.objs.size (hsN led) (tN led) ∧
     (∀ b o,b < s.heap.objs.size→s.heap.get? b = some o→h'.get? b = some o)) E) PySem.F.called_set.init.plain PySem.F.entry_set_init (check_set_init_1 hT ?_)) fun r₂ s₂ hr₂=>?_
   ·obtain ⟨ol,hol,hcl,nl,hdl⟩:=hl
    obtain ⟨ocls,odict,odata,oslots⟩:=ol
    simp only at hcl hdl
    subst hcl; subst hdl
    have hol':=up _ _ hol
    have c8:=PySem.F.sub_list_set
    have c9:=PySem.F.sub_list_frozenset
    have c10 : (Value.type "list" == Value.type "dict") = false:=by decide
    have hl1 : hS.IsList l vs.toArray:=⟨_,hol',rfl,nl,rfl⟩
    unfold Builtin.«set.__init__» noKeywords Builtin.Frozenset.updateFrom
    generalize hPI : pyIter = PI
    wp_walk
    subst hPI
    refine wpAny_pyIter_list hl1 ?_
    refine wpAny_bind (wpAny_runValue ?_)
    have hlt : l < s.heap.objs.size:=Heap.lt_size hol
    refine aBq (l:=l) (vs:=vs) (ys:=ys) (hsN:=hsN led) (tN:=tN led) (by simp [hh]) (by simp; lia) (Nat.ne_of_lt hlt) (by rw [hsz]; exact Nat.ne_of_lt (Nat.lt_succ_of_lt hlt)) (by rw [hsz]; exact Nat.ne_of_lt (Nat.lt_succ_self _))
     (vs.length - 0) 0 _ #[] (.fresh 0 0 led) rfl (Nat.zero_le _) ⟨_,Heap.get?_push_size _ rfl,rfl,rfl⟩ (hl1.push _) (hp.keeps fun b o _ e=>Heap.get?_push_of_some _ (up b o e)) ⟨_,#[],0,Heap.get?_push_of_some _ gS,rfl,⟨rfl,rfl⟩,rfl,by simp,rfl⟩ (hrun led) fun h' tk k S'=>?_
    show wpAny _ _ _ _ _ _
    refine wpAny_pure ?_
    show wpAny _ _ (ret Value.none) _ _ _
    refine wpAny_pure ⟨rfl,h',tk,rfl,S',fun b o hb e=>?_⟩
    exact k b o (Nat.ne_of_lt hb) (by rw [hsz]; exact Nat.ne_of_lt (Nat.lt_succ_of_lt hb)) (Heap.get?_push_of_some _ (up b o e))
   ·cases r₂ with
    | error e=>exact hr₂
    | ok fl₂ =>
     cases fl₂ with
     | next=>exact hr₂.elim
     | brk=>exact hr₂.elim
     | cont=>exact hr₂.elim
     | ret r =>
      obtain ⟨rfl,h',tk,rfl,S',k⟩:=hr₂
      repeat (any_goals (first | assumption | wp_step))
      exact h led h' tk S' k
end
end L2
namespace L2
open PySem
def aAf (l : List Nat) : Nat:=l.foldl (fun a x=>a ||| (1 <<< x)) 0
theorem aAg (l : List Nat) (a j : Nat) : (l.foldl (fun a x=>a ||| (1 <<< x)) a).testBit j = (a.testBit j || l.contains j):=by
 induction l generalizing a with
 | nil=>simp
 | cons x xs ih =>
  rw [List.foldl_cons,ih,Nat.testBit_or,List.contains_cons]
  have : (1 <<< x).testBit j = (j == x):=by
   rw [Nat.one_shiftLeft,Nat.testBit_two_pow]
   by_cases h : x = j
   ·simp [h]
   ·have h' : ¬ j = x:=fun e=>h e.symm
    simp [h,h']
  rw [this,Bool.or_assoc]
theorem mC {l : List Nat} {n j : Nat} (h : aAf l = 2 ^ n - 1) (hj : j < n) : j∈l:=by
 have e:=aAg l 0 j
 have h' : l.foldl (fun a x=>a ||| (1 <<< x)) 0 = 2 ^ n - 1:=h
 rw [h',Nat.testBit_two_pow_sub_one] at e
 simp [hj] at e
 exact e
def orb (M : Nat) : Nat→Nat→Nat
 | 0,i=>i
 | n + 1,i=>orb M n ((i * 5 + 1) % M)
theorem lG (M a : Nat) : ∀ b i,orb M (b + a) i = orb M a (orb M b i)
 | 0,i=>by rw [Nat.zero_add]; rfl
 | b + 1,i=>by
  rw [show b + 1 + a = (b + a) + 1 by lia]
  show orb M (b + a) _ = orb M a (orb M b _)
  exact lG M a b _
def orbL (M : Nat) : Nat→Nat→List Nat
 | 0,_=>[]
 | n + 1,i=>i :: orbL M n ((i * 5 + 1) % M)
theorem mK {M j : Nat} : ∀ {n i},j∈orbL M n i→∃ k,k < n∧orb M k i = j
 | 0,_,h=>by cases h
 | n + 1,i,h=>by
  rcases List.mem_cons.mp h with z | z
  ·exact ⟨0,by lia,z.symm⟩
  ·obtain ⟨k,a,b⟩:=mK z
   exact ⟨k + 1,by lia,b⟩
structure Rnd (M : Nat) : Prop where
 all : aAf (orbL M M 0) = 2 ^ M - 1
 back : orb M M 0 = 0
theorem rnd8 : Rnd 8:=⟨by decide +kernel,by decide +kernel⟩
theorem aB7 : Rnd 32:=⟨by decide +kernel,by decide +kernel⟩
theorem aAh : Rnd 128:=⟨by decide +kernel,by decide +kernel⟩
theorem aAi : Rnd 512:=⟨by decide +kernel,by decide +kernel⟩
theorem Rnd.cover {M : Nat} (R : Rnd M) {i j : Nat} (hi : i < M) (hj : j < M) : ∃ n,n < M∧orb M n i = j:=by
 obtain ⟨a,ha,ea⟩:=mK (mC R.all hi)
 obtain ⟨b,hb,eb⟩:=mK (mC R.all hj)
 by_cases h : a ≤ b
 ·refine ⟨b - a,by lia,?_⟩
  rw [← ea,← lG,show a + (b - a) = b by lia,eb]
 ·refine ⟨M + b - a,by lia,?_⟩
  rw [← ea,← lG,show a + (M + b - a) = M + b by lia,lG,R.back,eb]
def dG (mask : Nat) : Nat→Nat × Nat→Nat × Nat
 | 0,q=>q
 | n + 1,q=>dG mask n (SetTable.leap mask q.1 q.2)
theorem qO (m a : Nat) : ∀ b q,dG m (b + a) q = dG m a (dG m b q)
 | 0,q=>by rw [Nat.zero_add]; rfl
 | b + 1,q=>by
  rw [show b + 1 + a = (b + a) + 1 by lia]
  exact qO m a b _
theorem sJ {m : Nat} : ∀ {n : Nat} {q : Nat × Nat},q.1 < m + 1→(dG m n q).1 < m + 1
 | 0,_,h=>h
 | n + 1,q,h=>sJ (n:=n) (Nat.mod_lt _ (Nat.succ_pos _))
theorem vU {m : Nat} : ∀ {n : Nat} {q : Nat × Nat},(dG m n q).2 = q.2 / 32 ^ n
 | 0,_=>by simp [dG]
 | n + 1,q=>by
  show (dG m n _).2 = _
  rw [vU]
  show q.2 / 32 / 32 ^ n = _
  rw [Nat.div_div_eq_div_mul,Nat.pow_succ,Nat.mul_comm]
theorem qP {m : Nat} : ∀ {n i : Nat},dG m n (i,0) = (orb (m + 1) n i,0)
 | 0,_=>rfl
 | n + 1,i=>by
  show dG m n (SetTable.leap m i 0) = _
  unfold SetTable.leap
  simp only [Nat.zero_div,Nat.add_zero]
  exact qP
theorem mD {m : Nat} (R : Rnd (m + 1)) {i p j : Nat} (hi : i < m + 1) (hp : p < 2 ^ 64) (hj : j < m + 1) : ∃ n,n < m + 14∧(dG m n (i,p)).1 = j:=by
 have h1:=sJ (m:=m) (n:=13) (q:=(i,p)) hi
 have h2 : (dG m 13 (i,p)).2 = 0:=by
  rw [vU]
  exact Nat.div_eq_of_lt (Nat.lt_of_lt_of_le hp (by decide))
 obtain ⟨n,hn,e⟩:=R.cover h1 hj
 refine ⟨13 + n,by lia,?_⟩
 rw [qO]
 have : dG m 13 (i,p) = ((dG m 13 (i,p)).1,0):=Prod.ext rfl h2
 rw [this,qP]
 exact e
theorem vV (h : Int) : SetTable.bits h < 2 ^ 64:=by
 unfold SetTable.bits
 have a:=Int.emod_nonneg h (show (2 ^ 64 : Int) ≠ 0 by decide)
 have b:=Int.emod_lt_of_pos h (show (0 : Int) < 2 ^ 64 by decide)
 lia
theorem aEs {M : Nat} {l : List Nat} (h : l.length < M) : ∃ j,j < M∧j ∉ l:=by
 have key : ∀ (a b : List Nat),a.Nodup→(∀ x∈a,x∈b)→a.length ≤ b.length:=by
  intro a
  induction a with
  | nil=>intro b _ _; exact Nat.zero_le _
  | cons x xs ih =>
   intro b hn hs
   obtain ⟨h1,h2⟩:=List.nodup_cons.mp hn
   have hx : x∈b:=hs x List.mem_cons_self
   have:=ih (b.erase x) h2 fun y hy=>(List.mem_erase_of_ne (fun (e : y = x)=>h1 (e ▸ hy))).mpr (hs y (List.mem_cons_of_mem _ hy))
   rw [List.length_erase_of_mem hx] at this
   have : 0 < b.length:=List.length_pos_of_mem hx
   rw [List.length_cons]
   lia
 apply Classical.byContradiction
 intro hno
 have:=key (List.range M) l List.nodup_range fun x hx=>Classical.byContradiction fun hx'=>hno ⟨x,List.mem_range.mp hx,hx'⟩
 rw [List.length_range] at this
 lia
def sM (mask i p : Nat) : SetTable.Probe:={ j:=i,more:=SetTable.runEnd mask i - i,i:=i,perturb:=p,dummy:=none }
theorem aDL (mask i : Nat) : SetTable.runEnd mask i - i ≤ 9:=by unfold SetTable.runEnd; split <;> lia
theorem pD {t : SetTable} (hd : t.dummies = #[]) (j : Nat) : t.slot j = .empty∨∃ i,t.slot j = .live i∧t.place[i]? = some j:=by
 unfold SetTable.slot
 dsimp only
 split
 ·rename_i h
  exact .inr ⟨_,rfl,by simpa using h⟩
 ·left
  rw [hd]
  rfl
theorem xT {t : SetTable} (hd : t.dummies = #[]) {j : Nat} (h : j ∉ t.place.toList) : t.slot j = .empty:=by
 rcases pD hd j with e | ⟨i,_,e2⟩
 ·exact e
 ·exact absurd (by rw [← Array.getElem?_toList] at e2; exact List.mem_of_getElem? e2) h
section
variable {t : SetTable} {hashAt : Nat→Int} {h : Int}
theorem aAj (hd : t.dummies = #[]) (hh : ∀ i,i < t.place.size→hashAt i ≠ h) (i p : Nat) : ∀ (r : Nat) (j fuel : Nat),
  (∃ j',SetTable.probe.go t hashAt h (fuel + r + 1) { j:=j,more:=r,i:=i,perturb:=p,dummy:=none } = some (.empty j' none)) ∨
  SetTable.probe.go t hashAt h (fuel + r + 1) { j:=j,more:=r,i:=i,perturb:=p,dummy:=none } = SetTable.probe.go t hashAt h fuel (sM t.mask (SetTable.leap t.mask i p).1 (SetTable.leap t.mask i p).2)
 | 0,j,fuel=>by
  rcases pD hd j with e | ⟨k,e,e2⟩
  ·exact .inl ⟨j,by unfold SetTable.probe.go; rw [e]⟩
  ·right
   have hk : k < t.place.size:=(Array.getElem?_eq_some_iff.mp e2).1
   conv=>lhs; unfold SetTable.probe.go
   rw [e]
   simp only [beq_iff_eq,hh k hk,if_false]
   rfl
 | r + 1,j,fuel=>by
  rcases pD hd j with e | ⟨k,e,e2⟩
  ·exact .inl ⟨j,by rw [show fuel + (r + 1) + 1 = (fuel + r + 1) + 1 by lia]; unfold SetTable.probe.go; rw [e]⟩
  ·have hk : k < t.place.size:=(Array.getElem?_eq_some_iff.mp e2).1
   have st : SetTable.probe.go t hashAt h (fuel + (r + 1) + 1) { j:=j,more:=r + 1,i:=i,perturb:=p,dummy:=none } = SetTable.probe.go t hashAt h (fuel + r + 1) { j:=j + 1,more:=r,i:=i,perturb:=p,dummy:=none }:=by
    rw [show fuel + (r + 1) + 1 = (fuel + r + 1) + 1 by lia]
    conv=>lhs; unfold SetTable.probe.go
    rw [e]
    simp only [beq_iff_eq,hh k hk,if_false]
    rfl
   rw [st]
   exact aAj hd hh i p r (j + 1) fuel
theorem vW (hd : t.dummies = #[]) (hh : ∀ i,i < t.place.size→hashAt i ≠ h) : ∀ (m : Nat) (i p fuel : Nat),10 * (m + 1) ≤ fuel→t.slot (dG t.mask m (i,p)).1 = .empty →
  ∃ j',SetTable.probe.go t hashAt h fuel (sM t.mask i p) = some (.empty j' none)
 | 0,i,p,fuel,hf,e=>by
  obtain ⟨f,rfl⟩ : ∃ f,fuel = f + 1:=⟨fuel - 1,by lia⟩
  refine ⟨i,?_⟩
  have e' : t.slot i = .empty:=e
  unfold SetTable.probe.go sM
  dsimp only
  rw [e']
 | m + 1,i,p,fuel,hf,e=>by
  have hr:=aDL t.mask i
  obtain ⟨f,hf'⟩ : ∃ f,fuel = f + (SetTable.runEnd t.mask i - i) + 1:=⟨fuel - (SetTable.runEnd t.mask i - i) - 1,by lia⟩
  rcases aAj (hashAt:=hashAt) (h:=h) hd hh i p (SetTable.runEnd t.mask i - i) i f with z | z
  ·rw [hf']; exact z
  ·rw [hf']
   show ∃ j',SetTable.probe.go t hashAt h _ { j:=i,more:=_,i:=i,perturb:=p,dummy:=none } = _
   rw [z]
   exact vW hd hh m _ _ f (by lia) e
theorem xU (R : Rnd (t.mask + 1)) (hd : t.dummies = #[]) (hs : t.place.size ≤ t.mask) (hh : ∀ i,i < t.place.size→hashAt i ≠ h) : ∃ j,t.probe hashAt h (t.probeStart h) = some (.empty j none):=by
 obtain ⟨j,hj,hn⟩:=aEs (M:=t.mask + 1) (l:=t.place.toList) (by simpa using Nat.lt_succ_of_le hs)
 obtain ⟨m,hm,e⟩:=mD R (Nat.mod_lt (SetTable.bits h) (Nat.succ_pos t.mask)) (vV h) hj
 refine vW hd hh m _ _ _ ?_ (by rw [e]; exact xT hd hn)
 unfold SetTable.turns
 lia
end
theorem fZ {α β : Type} {f : α→Option β} : ∀ {l : List α},(∀ q∈l,(f q).isSome = true)→(l.filterMap f).length = l.length
 | [],_=>rfl
 | q :: l,h=>by
  have hq:=h q List.mem_cons_self
  cases e : f q with
  | none=>rw [e] at hq; cases hq
  | some b=>rw [List.filterMap_cons_some e,List.length_cons,List.length_cons,fZ fun x hx=>h x (List.mem_cons_of_mem _ hx)]
theorem qQ {mask : Nat} {owner : Array (Option Nat)} : ∀ (m fuel i p : Nat),m < fuel→owner.getD (dG mask m (i,p)).1 (some 0) = none→∃ j,SetTable.layClean.free mask owner fuel i p = some j∧owner.getD j (some 0) = none
 | m,0,_,_,h,_=>by lia
 | m,fuel + 1,i,p,h,e=>by
  unfold SetTable.layClean.free
  cases hf : (List.range (SetTable.runEnd mask i + 1 - i)).find? fun k=>(owner.getD (i + k) (some 0)).isNone with
  | some k =>
   refine ⟨i + k,rfl,?_⟩
   have:=List.find?_some hf
   simpa using this
  | none =>
   cases m with
   | zero =>
    have h0 : (0 : Nat)∈List.range (SetTable.runEnd mask i + 1 - i):=List.mem_range.mpr (by unfold SetTable.runEnd; split <;> lia)
    have:=List.find?_eq_none.mp hf 0 h0
    have e' : owner.getD i (some 0) = none:=e
    rw [Nat.add_zero,e'] at this
    exact absurd rfl this
   | succ m =>
    exact qQ m fuel _ _ (by lia) e
structure Laid (M : Nat) (owner : Array (Option Nat)) (k : Nat) : Prop where
 size : owner.size = M
 cnt : owner.toList.countP Option.isSome = k
 lt : ∀ x,some x∈owner.toList→x < k
theorem xV {l : List (Option Nat)} {j : Nat} {x : Nat} (hj : l[j]? = some none) : (l.set j (some x)).countP Option.isSome = l.countP Option.isSome + 1:=by
 induction l generalizing j with
 | nil=>cases hj
 | cons a l ih =>
  cases j with
  | zero =>
   obtain rfl : a = none:=by simpa using hj
   simp
  | succ j =>
   rw [List.set_cons_succ,List.countP_cons,List.countP_cons,ih (by simpa using hj)]
   lia
theorem Laid.one {mask : Nat} {owner : Array (Option Nat)} {k : Nat} (L : Laid (mask + 1) owner k) (R : Rnd (mask + 1)) (hk : k < mask + 1) (h : Int) :
  ∃ j,SetTable.layClean.free mask owner (SetTable.turns mask) (SetTable.bits h % (mask + 1)) (SetTable.bits h) = some j∧Laid (mask + 1) (owner.setIfInBounds j (some k)) (k + 1):=by
 have hno : ∃ j,j < mask + 1∧owner.toList[j]? = some none:=by
  apply Classical.byContradiction
  intro hno
  have hall : ∀ x∈owner.toList,x.isSome = true:=by
   intro x hx
   obtain ⟨j,hj,e⟩:=List.mem_iff_getElem.mp hx
   cases x with
   | some _=>rfl
   | none =>
    refine absurd ⟨j,?_,?_⟩ hno
    ·rw [← L.size]; simpa using hj
    ·rw [List.getElem?_eq_getElem hj,e]
  have:=List.countP_eq_length.mpr hall
  rw [L.cnt,Array.length_toList,L.size] at this
  lia
 obtain ⟨j0,hj0,e0⟩:=hno
 obtain ⟨m,hm,em⟩:=mD R (Nat.mod_lt (SetTable.bits h) (Nat.succ_pos mask)) (vV h) hj0
 obtain ⟨j,ej,en⟩:=qQ (mask:=mask) (owner:=owner) m (SetTable.turns mask) (SetTable.bits h % (mask + 1)) (SetTable.bits h) (by unfold SetTable.turns; lia)
  (by rw [em,Array.getD_eq_getD_getElem?,← Array.getElem?_toList,e0]; rfl)
 refine ⟨j,ej,?_⟩
 have hjn : owner.toList[j]? = some none:=by
  rw [Array.getD_eq_getD_getElem?,← Array.getElem?_toList] at en
  cases hq : owner.toList[j]? with
  | none=>rw [hq] at en; cases en
  | some v=>rw [hq] at en; rw [show v = none from en]
 have hset : (owner.setIfInBounds j (some k)).toList = owner.toList.set j (some k):=by simp
 refine ⟨by simp [L.size],by rw [hset,xV hjn,L.cnt],fun x hx=>?_⟩
 rw [hset] at hx
 rcases List.mem_or_eq_of_mem_set hx with z | z
 ·exact Nat.lt_succ_of_lt (L.lt x z)
 ·cases z; exact Nat.lt_succ_self _
theorem vX {mask : Nat} (R : Rnd (mask + 1)) : ∀ (l : List Int) (owner : Array (Option Nat)) (k : Nat),Laid (mask + 1) owner k→k + l.length ≤ mask →
  ∃ owner',l.foldl (fun acc h=>do
   let (owner,k) ← acc
   let j ← SetTable.layClean.free mask owner (SetTable.turns mask) (SetTable.bits h % (mask + 1)) (SetTable.bits h)
   pure (owner.setIfInBounds j (some k),k + 1)) (some (owner,k)) = some (owner',k + l.length)∧Laid (mask + 1) owner' (k + l.length)
 | [],owner,k,L,_=>⟨owner,rfl,L⟩
 | h :: l,owner,k,L,hl=>by
  rw [List.length_cons] at hl
  obtain ⟨j,ej,L'⟩:=L.one R (by lia) h
  obtain ⟨o',e,L2⟩:=vX R l _ _ L' (by lia)
  refine ⟨o',?_,by rw [List.length_cons,show k + (l.length + 1) = k + 1 + l.length by lia]; exact L2⟩
  rw [List.foldl_cons]
  have : (do
   let (owner,k) ← some (owner,k)
   let j ← SetTable.layClean.free mask owner (SetTable.turns mask) (SetTable.bits h % (mask + 1)) (SetTable.bits h)
   pure (owner.setIfInBounds j (some k),k + 1) : Option (Array (Option Nat) × Nat)) = some (owner.setIfInBounds j (some k),k + 1):=by
   show (SetTable.layClean.free mask owner (SetTable.turns mask) (SetTable.bits h % (mask + 1)) (SetTable.bits h)).bind _ = _
   rw [ej]; rfl
  rw [this,e,List.length_cons,show k + (l.length + 1) = k + 1 + l.length by lia]
theorem uT {mask : Nat} (R : Rnd (mask + 1)) (hs : Array Int) (h : hs.size ≤ mask) : ∃ owner,SetTable.layClean mask hs = some owner∧Laid (mask + 1) owner hs.size:=by
 have L0 : Laid (mask + 1) (Array.replicate (mask + 1) none) 0:=⟨by simp,by simp [List.countP_replicate],fun x hx=>by simp at hx⟩
 obtain ⟨o,e,L⟩:=vX R hs.toList _ 0 L0 (by simpa using h)
 refine ⟨o,?_,by simpa using L⟩
 unfold SetTable.layClean
 rw [← Array.foldl_toList]
 have e':=congrArg (Option.map (·.1)) e
 exact e'
theorem xW {M n : Nat} {owner : Array (Option Nat)} (L : Laid M owner n) :
  ((List.range M).filterMap fun j=>(owner.getD j none).map (j,·)).length = n∧∀ q∈(List.range M).filterMap (fun j=>(owner.getD j none).map (j,·)),q.2 < n:=by
 constructor
 ·rw [← L.cnt]
  have e : owner.toList = (List.range M).map fun j=>owner.getD j none:=by
   apply List.ext_getElem
   ·simp [L.size]
   ·intro i h1 h2
    simp only [List.getElem_map,List.getElem_range,Array.getElem_toList]
    rw [Array.getD_eq_getD_getElem?,Array.getElem?_eq_getElem (by simpa using h1)]
    rfl
  conv=>rhs; rw [e]
  rw [List.countP_map]
  generalize List.range M = l
  induction l with
  | nil=>rfl
  | cons a l ih =>
   rw [List.countP_cons,← ih]
   cases hq : owner.getD a none with
   | none=>rw [List.filterMap_cons_none (by rw [hq]; rfl),show (Option.isSome ∘ fun j=>owner.getD j none) a = false by show (owner.getD a none).isSome = false; rw [hq]; rfl]; simp
   | some x=>rw [List.filterMap_cons_some (b:=(a,x)) (by rw [hq]; rfl),show (Option.isSome ∘ fun j=>owner.getD j none) a = true by show (owner.getD a none).isSome = true; rw [hq]; rfl]; simp
 ·intro q hq
  obtain ⟨j,_,e⟩:=List.mem_filterMap.mp hq
  cases hx : owner.getD j none with
  | none=>rw [hx] at e; cases e
  | some x =>
   rw [hx] at e
   cases e
   refine L.lt x ?_
   rw [Array.getD_eq_getD_getElem?,← Array.getElem?_toList] at hx
   cases hy : owner.toList[j]? with
   | none=>rw [hy] at hx; cases hx
   | some v=>rw [hy] at hx; obtain rfl : v = some x:=hx; exact List.mem_of_getElem? hy
structure nU (hs : Array Int) (t : SetTable) : Prop where
 dm : t.dummies = #[]
 sz : t.place.size = hs.size
 ms : (t.mask = 7∧hs.size ≤ 4)∨(t.mask = 31∧hs.size ≤ 18)∨(t.mask = 127∧hs.size ≤ 76)∨(t.mask = 511∧hs.size ≤ 306)
theorem nU.rnd {hs : Array Int} {t : SetTable} (T : nU hs t) : Rnd (t.mask + 1):=by
 rcases T.ms with ⟨e,_⟩ | ⟨e,_⟩ | ⟨e,_⟩ | ⟨e,_⟩ <;> rw [e]
 ·exact rnd8
 ·exact aB7
 ·exact aAh
 ·exact aAi
theorem jT {α : Type} (xs : Array α) (p : Nat) (x : α) : (SetTable.insertAt xs p x).size = xs.size + 1:=by
 unfold SetTable.insertAt
 simp
 lia
theorem kK {α : Type} {xs : Array α} {p : Nat} {x y : α} (h : y∈(SetTable.insertAt xs p x).toList) : y = x∨y∈xs.toList:=by
 unfold SetTable.insertAt at h
 rw [Array.toList_append,Array.toList_push,Array.toList_extract,Array.toList_extract] at h
 rcases List.mem_append.mp h with z | z
 ·rcases List.mem_append.mp z with z | z
  ·right
   rw [List.extract_eq_drop_take] at z
   exact List.mem_of_mem_drop (List.mem_of_mem_take z)
  ·left; simpa using z
 ·right
  rw [List.extract_eq_drop_take] at z
  exact List.mem_of_mem_drop (List.mem_of_mem_take z)
theorem xX {hs : Array Int} {t : SetTable} {h : Int} (T : nU hs t) (hn : h ∉ hs.toList) (hl : hs.size < 300) : ∃ hs' t',dW hs t h = some (hs',t')∧nU hs' t'∧hs'.size = hs.size + 1∧∀ x∈hs'.toList,x = h∨x∈hs.toList:=by
 have hle : t.place.size ≤ t.mask:=by rw [T.sz]; rcases T.ms with ⟨e,z⟩ | ⟨e,z⟩ | ⟨e,z⟩ | ⟨e,z⟩ <;> lia
 have hh : ∀ i,i < t.place.size→hAt hs i ≠ h:=by
  intro i hi e
  rw [T.sz] at hi
  unfold hAt at e
  rw [Array.getElem?_eq_getElem hi] at e
  exact hn (by rw [← e]; simp)
 obtain ⟨j,hp⟩:=xU (hashAt:=hAt hs) (h:=h) T.rnd T.dm hle hh
 have hg : t.gaveWay = false:=by
  unfold SetTable.gaveWay
  rcases T.ms with ⟨e,_⟩ | ⟨e,_⟩ | ⟨e,_⟩ | ⟨e,_⟩ <;> rw [e] <;> rfl
 have q1 : (t.put j).1.place = SetTable.insertAt t.place (SetTable.below t.place j) j:=rfl
 have q2 : (t.put j).1.dummies = #[]:=by
  show (if SetTable.has t.dummies j = true then _ else t.dummies) = _
  rw [T.dm]
  rfl
 have q3 : (t.put j).1.mask = t.mask:=rfl
 have s1 : (SetTable.insertAt hs (t.put j).2 h).size = hs.size + 1:=jT _ _ _
 have s2 : (t.put j).1.place.size = hs.size + 1:=by rw [q1,jT,T.sz]
 have fl : (t.put j).1.fill = hs.size + 1:=by unfold SetTable.fill; rw [s2,q2]; rfl
 have fit : (t.put j).1.fits (SetTable.insertAt hs (t.put j).2 h).size = true:=by
  unfold SetTable.fits
  rw [s1,s2,fl,q3]
  simp
  rcases T.ms with ⟨e,z⟩ | ⟨e,z⟩ | ⟨e,z⟩ | ⟨e,z⟩ <;> lia
 unfold dW
 rw [hg,if_neg Bool.false_ne_true,hp]
 dsimp only
 rw [if_pos (by rw [fit,s1]; simp; lia)]
 by_cases hf : (t.put j).1.tooFull = true
 ·rw [if_pos hf]
  have hf':=hf
  unfold SetTable.tooFull at hf'
  rw [fl,q3] at hf'
  have hf2 : (hs.size + 1) * 5 ≥ t.mask * 3:=by simpa using hf'
  have gr : SetTable.grown (hs.size + 1) = (hs.size + 1) * 4:=by unfold SetTable.grown; rw [if_neg (by lia)]
  obtain ⟨m2,em2,hm2,R2⟩ : ∃ m2,SetTable.sizeAbove (SetTable.grown (hs.size + 1)) = m2 + 1∧((m2 = 31∧hs.size + 1 ≤ 18)∨(m2 = 127∧hs.size + 1 ≤ 76)∨(m2 = 511∧hs.size + 1 ≤ 306))∧Rnd (m2 + 1):=by
   rw [gr]
   rcases T.ms with ⟨e,z⟩ | ⟨e,z⟩ | ⟨e,z⟩ | ⟨e,z⟩
   ·have : hs.size = 4:=by lia
    exact ⟨31,by rw [this]; rfl,.inl ⟨rfl,by lia⟩,aB7⟩
   ·have : hs.size = 18:=by lia
    exact ⟨127,by rw [this]; rfl,.inr (.inl ⟨rfl,by lia⟩),aAh⟩
   ·have : hs.size = 76:=by lia
    exact ⟨511,by rw [this]; rfl,.inr (.inr ⟨rfl,by lia⟩),aAi⟩
   ·lia
  have hm3 : (SetTable.insertAt hs (t.put j).2 h).size ≤ m2:=by rw [s1]; rcases hm2 with ⟨e,z⟩ | ⟨e,z⟩ | ⟨e,z⟩ <;> lia
  obtain ⟨owner,eo,L⟩:=uT R2 (SetTable.insertAt hs (t.put j).2 h) hm3
  obtain ⟨lv1,lv2⟩:=xW L
  rw [s1] at lv1 lv2
  generalize hlive : (List.range (m2 + 1)).filterMap (fun j=>(owner.getD j none).map (j,·)) = live at lv1 lv2
  have er : (t.put j).1.relaid (SetTable.insertAt hs (t.put j).2 h) (SetTable.grown (hs.size + 1)) = some ({ mask:=m2,place:=(live.map (·.1)).toArray,dummies:=#[],finger:=(t.put j).1.finger,led:=(t.put j).1.led,moves:=(t.put j).1.movedTo m2,plain:=(t.put j).1.plain },(live.map (·.2)).toArray):=by
   unfold SetTable.relaid SetTable.laid
   rw [em2]
   simp only [Nat.add_sub_cancel]
   rw [eo]
   show some _ = some _
   rw [← hlive]
  rw [er]
  dsimp only
  have hsz2 : ((live.map (·.2)).toArray.filterMap ((SetTable.insertAt hs (t.put j).2 h)[·]?)).size = hs.size + 1:=by
   rw [← Array.length_toList,Array.toList_filterMap]
   show ((live.map (·.2)).filterMap _).length = _
   rw [← lv1,List.filterMap_map]
   refine fZ fun q hq=>?_
   show ((SetTable.insertAt hs (t.put j).2 h)[q.2]?).isSome = true
   rw [Array.getElem?_eq_getElem (by rw [s1]; exact lv2 q hq)]
   rfl
  have emf : ∀ x,({ mask:=m2,place:=(live.map (·.1)).toArray,dummies:=#[],finger:=(t.put j).1.finger,led:=(t.put j).1.led,moves:=(t.put j).1.movedTo m2,plain:=(t.put j).1.plain } : SetTable).fits x = (decide (hs.size + 1 = x) && decide (hs.size + 1 ≤ m2)):=by
   intro x
   unfold SetTable.fits SetTable.fill
   simp [lv1]
   rw [Bool.eq_iff_iff]; simp
  rw [if_pos (by
   rw [hsz2,s1,emf,em2]
   have : hs.size + 1 ≤ m2:=by rw [← s1]; exact hm3
   simp [this]
   rcases hm2 with ⟨e,z⟩ | ⟨e,z⟩ | ⟨e,z⟩ <;> lia)]
  refine ⟨_,_,rfl,⟨rfl,?_,?_⟩,hsz2,fun x hx=>?_⟩
  ·rw [hsz2]; simp [lv1]
  ·rw [hsz2]; exact .inr hm2
  ·rw [Array.toList_filterMap] at hx
   obtain ⟨k,_,ek⟩:=List.mem_filterMap.mp hx
   refine kK (p:=(t.put j).2) ?_
   rw [← Array.getElem?_toList] at ek
   exact List.mem_of_getElem? ek
 ·rw [if_neg hf]
  refine ⟨_,_,rfl,⟨q2,by rw [s2,s1],?_⟩,s1,fun x hx=>kK hx⟩
  have hf' : ¬ (hs.size + 1) * 5 ≥ t.mask * 3:=by
   intro z
   refine hf ?_
   unfold SetTable.tooFull
   rw [fl,q3]
   simpa using z
  rw [s1,q3]
  rcases T.ms with ⟨e,z⟩ | ⟨e,z⟩ | ⟨e,z⟩ | ⟨e,z⟩ <;> lia
theorem mE : ∀ (l : List Int) (hs : Array Int) (t : SetTable),nU hs t→(∀ x∈l,x ∉ hs.toList)→l.Nodup→hs.size + l.length ≤ 300→∃ hs' t',l.foldlM (fun q h=>dW q.1 q.2 h) (hs,t) = some (hs',t')∧hs'.size = hs.size + l.length
 | [],hs,t,_,_,_,_=>⟨hs,t,rfl,rfl⟩
 | h :: l,hs,t,T,hn,nd,hl=>by
  rw [List.length_cons] at hl
  obtain ⟨n1,n2⟩:=List.nodup_cons.mp nd
  obtain ⟨hs1,t1,e1,T1,z1,m1⟩:=xX T (hn h List.mem_cons_self) (by lia)
  obtain ⟨hs2,t2,e2,z2⟩:=mE l hs1 t1 T1 (fun x hx hy=>by
   rcases m1 x hy with e | e
   ·exact n1 (e ▸ hx)
   ·exact hn x (List.mem_cons_of_mem _ hx) e) n2 (by lia)
  refine ⟨hs2,t2,?_,by rw [z2,z1,List.length_cons]; lia⟩
  rw [List.foldlM_cons]
  show (dW hs t h).bind _ = _
  rw [e1]
  exact e2
theorem aAk (led : Bool) {l : List Int} (nd : l.Nodup) (hl : l.length ≤ 300) : ∃ hs t,nR led l = some (hs,t)∧hs.size = l.length:=by
 obtain ⟨hs,t,e,z⟩:=mE l #[] (SetTable.fresh 0 0 led) ⟨rfl,rfl,.inl ⟨rfl,by decide⟩⟩ (fun x _ h=>by simp at h) nd (by simpa using hl)
 exact ⟨hs,t,e,by simpa using z⟩
end L2
namespace L2
open PySem PySem.Spec PyProof.Rows PySem.W
def rL : List Nat→Nat→Bool
 | [],_=>true
 | x :: xs,acc=>bif Nat.testBit acc x then false else rL xs (acc ||| (1 <<< x))
theorem sO : ∀ (l : List Nat) (acc : Nat),rL l acc = true→l.Nodup∧∀ x∈l,acc.testBit x = false
 | [],_,_=>⟨List.nodup_nil,fun x h=>(nomatch h)⟩
 | x :: xs,acc,h=>by
  unfold rL at h
  cases hb : acc.testBit x with
  | true=>rw [hb] at h; cases h
  | false =>
   rw [hb] at h
   obtain ⟨nd,hx⟩:=sO xs _ h
   have hor : ∀ y∈xs,acc.testBit y = false∧y ≠ x:=by
    intro y hy
    have:=hx y hy
    rw [Nat.testBit_or,Nat.one_shiftLeft,Nat.testBit_two_pow] at this
    rw [Bool.or_eq_false_iff] at this
    exact ⟨this.1,fun e=>by have:=this.2; simp [e] at this⟩
   refine ⟨List.nodup_cons.mpr ⟨fun hm=>(hor x hm).2 rfl,nd⟩,fun y hy=>?_⟩
   rcases List.mem_cons.mp hy with z | z
   ·rw [z]; exact hb
   ·exact (hor y z).1
def mL : List (Int × Int):=(List.range 32).flatMap fun a=>(List.range 32).map fun b=>(Int.ofNat a,Int.ofNat b)
def aB8 (h : Int) : Nat:=(h % 6554).toNat
theorem aAl (P : Program) (w : World) : rL (mL.map fun y=>aB8 (dN P w y)) 0 = true:=by kernel_rfl
theorem vY {y : Int × Int} (h1 : 0 ≤ y.1∧y.1 < 32) (h2 : 0 ≤ y.2∧y.2 < 32) : y∈mL:=by
 unfold mL
 refine List.mem_flatMap.mpr ⟨y.1.toNat,List.mem_range.mpr (by lia),List.mem_map.mpr ⟨y.2.toNat,List.mem_range.mpr (by lia),Prod.ext ?_ ?_⟩⟩
 ·show ((y.1.toNat : Nat) : Int) = y.1; lia
 ·show ((y.2.toNat : Nat) : Int) = y.2; lia
theorem jU {α β : Type} {f : α→β} : ∀ {l : List α},(l.map f).Nodup→∀ x∈l,∀ y∈l,f x = f y→x = y
 | [],_,_,h,_,_,_=>by cases h
 | a :: l,h,x,hx,y,hy,e=>by
  rw [List.map_cons] at h
  obtain ⟨h1,h2⟩:=List.nodup_cons.mp h
  rcases List.mem_cons.mp hx with z | z <;> rcases List.mem_cons.mp hy with z' | z'
  ·rw [z,z']
  ·exact absurd (List.mem_map.mpr ⟨y,z',by rw [← e,z]⟩) h1
  ·exact absurd (List.mem_map.mpr ⟨x,z,by rw [e,z']⟩) h1
  ·exact jU h2 x z y z' e
theorem sQ {P : Program} {w : World} {x y : Int × Int} (hx : (0 ≤ x.1∧x.1 < 32)∧(0 ≤ x.2∧x.2 < 32)) (hy : (0 ≤ y.1∧y.1 < 32)∧(0 ≤ y.2∧y.2 < 32)) (e : dN P w x = dN P w y) : x = y :=
 jU (sO _ _ (aAl P w)).1 x (vY hx.1 hx.2) y (vY hy.1 hy.2) (congrArg aB8 e)
theorem kL {α β : Type} {f : α→β} : ∀ {l : List α},l.Nodup→(∀ x∈l,∀ y∈l,f x = f y→x = y)→(l.map f).Nodup
 | [],_,_=>List.nodup_nil
 | a :: l,h,hf=>by
  obtain ⟨h1,h2⟩:=List.nodup_cons.mp h
  rw [List.map_cons]
  refine List.nodup_cons.mpr ⟨fun z=>?_,kL h2 fun x hx y hy=>hf x (List.mem_cons_of_mem _ hx) y (List.mem_cons_of_mem _ hy)⟩
  obtain ⟨y,hy,e⟩:=List.mem_map.mp z
  have:=hf y (List.mem_cons_of_mem _ hy) a List.mem_cons_self e
  exact h1 (this ▸ hy)
theorem uU {P : Program} {w : World} (led : Bool) {ys : List (Int × Int)} (nd : ys.Nodup) (hr : ∀ y∈ys,(0 ≤ y.1∧y.1 < 32)∧(0 ≤ y.2∧y.2 < 32)) (hl : ys.length ≤ 300) :
  ∃ hs t,nR led (ys.map (dN P w)) = some (hs,t)∧hs.size = ys.length:=by
 obtain ⟨hs,t,e,z⟩:=aAk led (kL nd fun x hx y hy e=>sQ (P:=P) (w:=w) (hr x hx) (hr y hy) e) (by rw [List.length_map]; exact hl)
 exact ⟨hs,t,e,by rw [z,List.length_map]⟩
end L2
namespace L2
open PySem PySem.Spec PyProof.Rows PySem.W
theorem pE : ∀ {as : List Addr} {its : List Value},Vals (as.map V.ref) its→its = as.map Value.ref
 | [],_,r=>by cases r; rfl
 | a :: as,_,r=>by
  cases r with
  | cons r rr =>
   obtain rfl:=(show _ = Value.ref a from r)
   rw [pE rr]; rfl
def setO (D : Addr) (n : Nat) : HO:=.ext fun h=>∃ hs t,fJ h D hs t∧hs.size = n
section
variable {X : Cx}
def aEt (K : PySem.W.Frag) : List V→Hp→VK→Prop:=fun xs H Q=>∃ (l : Addr) (as : List Addr) (ys : List (Int × Int)),xs = [.ref l]∧SqL K H l (as.map V.ref)∧as.length = ys.length ∧
 (∀ i,i < ys.length→aAd K H (as.getD i 0) (ys.getD i (0,0)))∧ys.Nodup∧(∀ y∈ys,(0 ≤ y.1∧y.1 < 32)∧(0 ≤ y.2∧y.2 < 32))∧ys.length ≤ 300∧∀ D,H D = none→Q (.ref D) (upd H D (setO D ys.length))
theorem aAm (hc : X.calm = true) (hu : X.A.units + 8 < cLine) : cI X (.type "set") (aEt X.K):=by
 intro pins s σ H xs us Q I r h
 obtain ⟨l,as,ys,rfl,hl,hlen,hp,nd,rg,h3,q⟩:=h
 obtain ⟨u1,rfl,r1⟩:=r.one
 obtain rfl : u1 = Value.ref l:=r1
 obtain ⟨its,rv,pl,hz⟩:=I.list hl
 have e:=pE rv
 subst e
 have hpi : fU s.heap (as.map Value.ref) ys:=⟨by rw [List.length_map,hlen],fun i v hv=>by
  rw [List.getElem?_map] at hv
  cases ea : as[i]? with
  | none=>rw [ea] at hv; cases hv
  | some a =>
   rw [ea] at hv
   obtain rfl : Value.ref a = v:=Option.some.inj hv
   have hi : i < as.length:=(List.getElem?_eq_some_iff.mp ea).1
   obtain ⟨o,n,t,u,e1,c,d⟩:=xR I (hp i (by lia))
   have eg : as.getD i 0 = a:=by rw [List.getD_eq_getElem?_getD,ea]; rfl
   rw [eg] at e1
   exact ⟨a,o,n,t,u,rfl,e1,c,d⟩⟩
 have hrun : ∀ led,∃ q : Array Int × SetTable,nR led (ys.map (dN X.prog X.w)) = some q∧q.1.size = ys.length:=fun led =>
  let ⟨hs,t,e,z⟩:=uU (P:=X.prog) (w:=X.w) led nd rg h3; ⟨(hs,t),e,z⟩
 refine aBr (I.ok.hd hc) hu pl.isList hpi (hsN:=fun led=>(hrun led).choose.1) (tN:=fun led=>(hrun led).choose.2) (fun led=>(hrun led).choose_spec.1) fun led h' tk S' k=>?_
 refine ⟨.ref s.heap.objs.size,_,I.laidN (t':=tk) (o:=setO s.heap.objs.size ys.length) (fun b u e=>k b u (Heap.lt_size e) e) (Heap.get?_none_of_le (Nat.le_refl _)) ⟨⟨_,_,S',(hrun led).choose_spec.2⟩,?_,fun h1 h2 ⟨hs,t,⟨o,es,ep,q1,q2⟩,z⟩ kk=>⟨hs,t,⟨o,es,ep,kk o q1,q2⟩,z⟩⟩,rfl,q _ I.fresh⟩
 obtain ⟨o,_,_,q1,_⟩:=S'
 exact ⟨o,q1⟩
theorem uV : cI X (.builtin "len") (fun xs H Q=>∃ D n,xs = [.ref D]∧H D = some (setO D n)∧n ≤ 4096∧Q (.int n) H):=by
 intro pins s σ H xs us Q I r h
 obtain ⟨D,n,rfl,e,hn,q⟩:=h
 obtain ⟨u1,rfl,r1⟩:=r.one
 obtain rfl : u1 = Value.ref D:=r1
 obtain ⟨⟨hs,t,⟨o,es,ep,q1,q2,q3,q4,q5,q6⟩,z⟩,_⟩:=(show bP X.prog X.w H s.heap D (setO D n) from I.hok D _ e)
 have hsz : es.size = n:=by rw [← z,← q5,Array.size_map]
 exact call_len_set q1 ⟨q2,q3.1,q3.2⟩ q4 q6 (by rw [hsz]; lia) ⟨.int n,H,I.tok _,⟨_,by rw [hsz]⟩,q⟩
theorem uW : cI X (.type "range") (fun xs H Q=>∃ n,xs = [.int n]∧∀ p,H p = none→Q (.ref p) (upd H p (.rng 0 n))):=by
 intro pins s σ H xs us Q I r h
 obtain ⟨n,rfl,q⟩:=h
 obtain ⟨u1,rfl,t,rfl⟩:=r.one
 refine call_range_1 ⟨.ref s.heap.objs.size,_,I.laid (o:=.rng 0 n) (fun b u e=>Heap.get?_push_of_some _ e) (Nat.le_refl _) ⟨_,_,_,Heap.get?_push_size _ rfl⟩,rfl,q _ I.fresh⟩
theorem xY (hc : X.calm = true) : cI X (.type "list") (fun xs H Q=>∃ (p : Addr) (n : Nat),xs = [.ref p]∧H p = some (.rng 0 n)∧n ≤ 1000∧∀ l,H l = none→Q (.ref l) (upd H l (.lst ((List.range n).map fun (i : Nat)=>V.int i)))):=by
 intro pins s σ H xs us Q I r h
 obtain ⟨p,n,rfl,e,hn,q⟩:=h
 obtain ⟨u1,rfl,r1⟩:=r.one
 obtain rfl : u1 = Value.ref p:=r1
 obtain ⟨t,u,v,hp⟩:=(show bP X.prog X.w H s.heap p (.rng 0 n) from I.hok p _ e)
 refine call_list_range (n:=n) (I.ok.hd hc) (show IsRange s.heap p 0 n 1 t u v from hp) (small_one (by lia) (by lia) (by lia) (by lia)) (by rw [rangeSize_one]; split <;> lia) (by lia) fun h' tk acc c k g it=>?_
 obtain ⟨i1,i2⟩:=it
 refine ⟨.ref s.heap.objs.size,_,I.laidN (t':=tk) (o:=.lst ((List.range n).map fun (i : Nat)=>V.int i)) (fun b u e=>k b u e) (Heap.get?_none_of_le (Nat.le_refl _)) ⟨?_,acc.toList,c,?_,by simpa using g⟩,rfl,q _ I.fresh⟩
 ·rw [List.length_map,List.length_range]
  exact Nat.le_trans hn (by decide)
 ·have go : ∀ (m : Nat) (l : List Value),l.length = m→(∀ (j : Nat) v,l[j]? = some v→∃ t,v = Value.int (0 + (j : Int) * 1) t)→Vals ((List.range m).map fun (i : Nat)=>V.int i) l:=by
   intro m
   induction m with
   | zero=>intro l hl _; cases l with
    | nil=>exact .nil
    | cons _ _=>cases hl
   | succ m ih =>
    intro l hl hv
    have hne : l ≠ []:=by intro z; rw [z] at hl; cases hl
    have el : l = l.dropLast ++ [l.getLast hne]:=(List.dropLast_concat_getLast hne).symm
    rw [List.range_succ,List.map_append,el]
    have hdl : l.dropLast.length = m:=by rw [List.length_dropLast,hl]; rfl
    refine Vals.append (ih _ hdl fun j v hj=>hv j v ?_) (.cons ?_ .nil)
    ·rw [el]
     have hj' : j < l.dropLast.length:=(List.getElem?_eq_some_iff.mp hj).1
     rw [List.getElem?_append_left hj']
     exact hj
    ·obtain ⟨t,ht⟩:=hv m (l.getLast hne) (by
      rw [List.getLast_eq_getElem,List.getElem?_eq_getElem (by lia : m < l.length)]
      simp [hl])
     exact ⟨t,by rw [ht]; simp⟩
  exact go n acc.toList (by simpa using i1) fun j v hj=>i2 j v (by simpa using hj)
end
end L2
namespace L2
open PySem PySem.Spec PyProof.Rows PySem.W
def dZ (e : V→V→Bool) : List V→List V→Bool
 | [],[]=>true
 | x :: xs,y :: ys=>e x y && dZ e xs ys
 | _,_=>false
theorem iQ {e : V→V→Bool} : ∀ {xs ys : List V},xs.length = ys.length→dZ e xs ys = (List.range xs.length).all fun i=>e (xs.getD i .non) (ys.getD i .non)
 | [],[],_=>rfl
 | x :: xs,y :: ys,h=>by
  have h' : xs.length = ys.length:=by simpa using h
  rw [dZ,iQ h',List.length_cons,List.range_succ_eq_map,List.all_cons,List.all_map]
  rfl
 | [],_ :: _,h=>by simp at h
 | _ :: _,[],h=>by simp at h
theorem qR {e : V→V→Bool} : ∀ {xs ys : List V},xs.length ≠ ys.length→dZ e xs ys = false
 | [],[],h=>absurd rfl h
 | x :: xs,y :: ys,h=>by
  have h' : xs.length ≠ ys.length:=fun z=>h (by simp [z])
  rw [dZ,qR h',Bool.and_false]
 | [],_ :: _,_=>rfl
 | _ :: _,[],_=>rfl
section
variable {X : Cx}
def ElEq (X : Cx) (H : Hp) (e : V→V→Bool) (x y : V) : Prop:=∀ (pins : List (Addr × Obj)) (s : Shared) (σ : St) (A : Around) (u v : Value),Inv X pins σ H s→A.units + 1 < cLine→RelV x u→RelV y v→SeqAt.EqAt A s u v (e x y)
def rLEq (X : Cx) (neg : Bool) (e : V→V→Bool) : R2:=fun x y H Q=>∃ p q xs ys,x = .ref p∧y = .ref q∧SqL X.K H p xs∧SqL X.K H q ys∧(∀ i,i < xs.length→i < ys.length→ElEq X H e (xs.getD i .non) (ys.getD i .non))∧Q (.bl (if neg then !dZ e xs ys else dZ e xs ys)) H
theorem aBs {pins : List (Addr × Obj)} {s : Shared} {σ : St} {H : Hp} {A : Around} {e : V→V→Bool} {xs ys : List V} {us vs : List Value} (I : Inv X pins σ H s) (hu : A.units + 1 < cLine) (rx : Vals xs us) (ry : Vals ys vs)
  (he : ∀ i,i < xs.length→i < ys.length→ElEq X H e (xs.getD i .non) (ys.getD i .non)) : ∀ j (h1 : j < us.toArray.size) (h2 : j < vs.toArray.size),SeqAt.EqAt A s us.toArray[j] vs.toArray[j] (e (xs.getD j .non) (ys.getD j .non)):=by
 intro j h1 h2
 have j1 : j < xs.length:=by rw [rx.length]; simpa using h1
 have j2 : j < ys.length:=by rw [ry.length]; simpa using h2
 have e1 : xs[j]? = some (xs.getD j .non):=by rw [List.getD_eq_getElem?_getD,List.getElem?_eq_getElem j1]; rfl
 have e2 : ys[j]? = some (ys.getD j .non):=by rw [List.getD_eq_getElem?_getD,List.getElem?_eq_getElem j2]; rfl
 obtain ⟨u,hu1,ru⟩:=rx.get e1
 obtain ⟨v,hv1,rv⟩:=ry.get e2
 have eu : us.toArray[j] = u:=by
  have : us[j]? = some us.toArray[j]:=by simp at h1 ⊢
  rw [hu1] at this; exact (Option.some.inj this).symm
 have ev : vs.toArray[j] = v:=by
  have : vs[j]? = some vs.toArray[j]:=by simp at h2 ⊢
  rw [hv1] at this; exact (Option.some.inj this).symm
 rw [eu,ev]
 exact he j j1 j2 pins s σ A u v I hu ru rv
theorem sR {e : V→V→Bool} (hu : X.A.units + 2 < cLine) : OpR X (compareOp .NotEq) (rLEq X true e):=by
 intro pins s σ H x y v u Q I rx ry h
 obtain ⟨p,q,xs,ys,rfl,rfl,hp,hq,he,k⟩:=h
 obtain rfl : v = Value.ref p:=rx
 obtain rfl : u = Value.ref q:=ry
 obtain ⟨us,r1,p1,_⟩:=I.list hp
 obtain ⟨vs,r2,p2,_⟩:=I.list hq
 by_cases hl : xs.length = ys.length
 ·refine SeqAt.RcNeAt.lists (e:=fun i=>e (xs.getD i .non) (ys.getD i .non)) p1.isList p2.isList (by simp only [List.size_toArray]; rw [← r1.length,← r2.length]; exact hl) (by lia) (aBs I (by show X.A.units + 1 + 1 < cLine; lia) r1 r2 he) _ _ _ _ ⟨.bl _,H,I,rfl,?_⟩
  rw [show us.toArray.size = xs.length by rw [List.size_toArray,r1.length],← iQ hl]
  exact k
 ·refine SeqAt.RcNeAt.lists_lengths p1.isList p2.isList (by simp only [List.size_toArray]; rw [← r1.length,← r2.length]; simpa using hl) (by lia) _ _ _ _ ⟨.bl _,H,I,rfl,?_⟩
  have k':=k
  rw [qR hl] at k'
  exact k'
theorem aAn (hc : X.calm = true) : cI X (.builtin "any") (fun xs H Q=>∃ (p : Addr) (bs : List Bool),xs = [.ref p]∧SqL X.K H p (bs.map V.bl)∧Q (.bl (bs.any id)) H):=by
 intro pins s σ H xs us Q I r h
 obtain ⟨p,bs,rfl,hp,q⟩:=h
 obtain ⟨u1,rfl,r1⟩:=r.one
 obtain rfl : u1 = Value.ref p:=r1
 obtain ⟨its,rv,pl,hz⟩:=I.list hp
 have hits : its = bs.map Value.bool:=by
  have go : ∀ (bs : List Bool) (its : List Value),Vals (bs.map V.bl) its→its = bs.map Value.bool:=by
   intro bs
   induction bs with
   | nil=>intro its r; cases r; rfl
   | cons b bs ih =>
    intro its r
    cases r with
    | cons r rr =>
     obtain rfl:=(show _ = Value.bool b from r)
     rw [ih _ rr]; rfl
  exact go bs its rv
 subst hits
 obtain ⟨ob,hob,_⟩:=id pl.isList
 have hlt : p < s.heap.objs.size:=Heap.lt_size hob
 refine call_any_walk (wpAny_pyIter_list pl.isList ⟨s.heap.objs.size,_,_,_,_,_,fun i=>bs.getD i false,rfl,Walks.list (show X.A.in1.handled = none from I.ok.hd hc) _ p (Nat.ne_of_lt hlt) _,⟨⟨_,Heap.get?_push_size _ rfl,rfl,rfl⟩,pl.isList.push _⟩,fun i v s1 Q' E' hv hq=>?_,fun h' tk k=>?_⟩)
 ·have hv' : (bs.map Value.bool)[i]? = some v:=by simpa using hv
  rw [List.getElem?_map] at hv'
  cases eb : bs[i]? with
  | none=>rw [eb] at hv'; cases hv'
  | some b =>
   rw [eb] at hv'
   obtain rfl : Value.bool b = v:=Option.some.inj hv'
   have : bs.getD i false = b:=by rw [List.getD_eq_getElem?_getD,eb]; rfl
   have hq' : Q' b s1:=by rw [← this]; exact hq
   exact wpAny_pure hq'
 ·have keep : ∀ b o,s.heap.get? b = some o→h'.get? b = some o:=fun b o e=>k b o (by simpa using Nat.ne_of_lt (Heap.lt_size e)) (Heap.get?_push_of_some _ e)
  refine ⟨.bl (bs.any id),H,I.kept (t':=tk) keep,?_,q⟩
  show Value.bool _ = Value.bool _
  congr 1
  have go : ∀ (bs : List Bool),((List.range bs.length).any fun i=>bs.getD i false) = bs.any id:=by
   intro bs
   induction bs with
   | nil=>rfl
   | cons b bs ih =>
    rw [List.length_cons,List.range_succ_eq_map,List.any_cons,List.any_map,List.any_cons,← ih]
    rfl
  rw [← go bs]
  simp
end
end L2
namespace L2
open PySem PySem.Spec PyProof.Rows
def lH (c : Addr) (qual : Str) : HO:=.ext fun h=>h.CodeRec (.ref c) qual
theorem aBt {P : Program} {w : World} {H : Hp} {h : Heap} {c : Addr} {qual : Str} (x : h.CodeRec (.ref c) qual) : bP P w H h c (lH c qual):=by
 refine ⟨x,?_,?_⟩
 ·obtain ⟨c',o,vs,t,e,ho,_⟩:=x
  cases e; exact ⟨o,ho⟩
 ·rintro h1 h2 ⟨c',o,vs,t,e,ho,r⟩ k
  cases e; exact ⟨c,o,vs,t,rfl,k o ho,r⟩
def aB9 (f : Addr) (qual : Str) (params : Arguments) (body : Expr) (scope : Scope) (cells : List (Str × Addr)) (c : Addr) (h : Heap) : Prop :=
 ∃ (clos : List (Str × Addr)) (pm ctv : Value),(∀ x a,clos.lookup x = some a→cells.lookup x = some a)∧(∀ x,(x,NameKind.free)∈scope.names→∃ a,clos.lookup x = some a) ∧
  h.get? f = some (PySem.W.kla_obj "<lambda>" qual params body scope clos pm c ctv)
def lamO (f : Addr) (qual : Str) (params : Arguments) (body : Expr) (scope : Scope) (cells : List (Str × Addr)) (c : Addr) : HO:=.ext (aB9 f qual params body scope cells c)
theorem vZ {P : Program} {w : World} {H : Hp} {h : Heap} {f : Addr} {qual : Str} {params : Arguments} {body : Expr} {scope : Scope} {cells : List (Str × Addr)} {c : Addr} (x : aB9 f qual params body scope cells c h) :
  bP P w H h f (lamO f qual params body scope cells c):=by
 refine ⟨x,?_,?_⟩
 ·obtain ⟨_,_,_,_,_,e⟩:=x
  exact ⟨_,e⟩
 ·rintro h1 h2 ⟨clos,pm,ctv,a,b,e⟩ k
  exact ⟨clos,pm,ctv,a,b,k _ e⟩
def xZ (lp : Pos) (qual : Str) (P : Addr) (H : Hp) : Prop:=H P = some (.tbl #[])∨∃ c,H P = some (.tbl #[rawInt lp.line,rawInt lp.col,.ref c])∧H c = some (lH c qual)
structure LamC (X : Cx) (c P : Addr) : Prop where
 code : X.env.code = .ref c
 hd : PySem.W.CodeHd X.base c P
 bm : ∃ bm o,X.mg "__builtins__" = some (.ref bm)∧bm ≠ builtinsNs∧bm ≠ mainGlobals∧X.base.get? bm = some o∧o.cls = .type "module" ∧ o.dict = some builtinsNs∧o.data = .plain
def tLam (lp : Pos) (qual : Str) (P : Addr) (params : Arguments) (body : Expr) (scope : Scope) (cells : List (Str × Addr)) : TE:=fun _ H Q=>xZ lp qual P H ∧
 ∀ (f c : Addr) (H2 : Hp),xZ lp qual P H2→(∀ b o,H b = some o→b ≠ P→H2 b = some o)→H2 c = some (lH c qual)→H2 f = some (lamO f qual params body scope cells c)→Q (.ref f) H2
theorem uX {lp : Pos} {c : Addr} : TriplesOk (#[rawInt lp.line,rawInt lp.col,.ref c] : Array Value).toList:=trivial
theorem aAo {lp : Pos} {c : Addr} : codeAmong lp (#[rawInt lp.line,rawInt lp.col,.ref c] : Array Value).toList = some (.ref c):=by
 show (if ((lp.line : Int) == (lp.line : Int) && (lp.col : Int) == (lp.col : Int)) = true then some (Value.ref c) else _) = _
 simp
section
variable {X : Cx} {c P : Addr} {params : Arguments} {body : Expr} {scope : Scope} {lp : Pos} {NB : List Str} {src : List (Option Nat)}
theorem LamC.at (C : LamC X c P) {pins : List (Addr × Obj)} {σ : St} {H : Hp} {s : Shared} {ps : Array Value} (I : Inv X pins σ H s) (hP : H P = some (.tbl ps)) : s.heap.BuiltinsAt X.mg P:=by
 obtain ⟨bm,o,b1,b2,b3,b4,b5,b6,b7⟩:=C.bm
 refine ⟨bm,o,b1,b2,b3,fun z=>?_,I.bk _ _ b4,b5,b6,b7⟩
 have:=(I.bs _ _ b4).2
 rw [z,hP] at this; cases this
theorem Inv.globs {pins : List (Addr × Obj)} {σ : St} {H : Hp} {s : Shared} (I : Inv X pins σ H s) : s.heap.Ns mainGlobals X.mg:=I.mod.glob.keeps I.bk
theorem aDM (C : LamC X c P) (S : eZ NB src scope X) (hdef : defaultsOf params X.env = ([],[]):=by rfl) : PE X (.Lambda params body scope lp) (tLam lp (X.env.qual ++ "<lambda>") P params body scope X.env.cells):=by
 intro pins s σ H Q I h
 obtain ⟨tab,h⟩:=h
 obtain ⟨clos,ecl,c1,c2⟩:=jJ I.ok S
 refine PySem.W.kla_eval hdef ?_
 have hsz : ∀ b o,s.heap.get? b = some o→b < s.heap.objs.size:=fun b o e=>Heap.lt_size e
 rcases tab with hP | ⟨c',hP,hc'⟩
 ·-- the first time
  have hPo : s.heap.get? P = some (PySem.W.tabObj #[]):=I.hok P _ hP
  have hPL : X.env.locals ≠ P:=fun z=>by have f:=I.free; rw [z,hP] at f; cases f
  have hPg : mainGlobals ≠ P:=fun z=>by
   obtain ⟨o,es,ep,e,d,_⟩:=I.mod.glob
   have:=(I.bs _ _ e).2
   rw [z,hP] at this; cases this
  refine PySem.W.kla_makeFunction (mg:=X.mg) ecl I.ok.glob I.globs C.code (C.hd.keeps I.bk) hPo (by trivial) rfl hPg (C.at I hP) fun c' ctv h' tk hx hge hlt hrec htb=>?_
  have hgt : ∀ b o,b ≠ P→s.heap.get? b = some o→(h'.push (PySem.W.kla_obj "<lambda>" (X.env.qual ++ "<lambda>") params body scope clos ((X.mg "__name__").getD .none) c' ctv)).get? b = some o:=fun b o hb e=>Heap.get?_push_of_some _ (hx b o hb e)
  have hcP : c' ≠ P:=Nat.ne_of_gt (Nat.lt_of_lt_of_le (hsz _ _ hPo) hge)
  have hfP : h'.objs.size ≠ P:=Nat.ne_of_gt (Nat.lt_of_lt_of_le (hsz _ _ hPo) (Nat.le_trans hge (Nat.le_of_lt hlt)))
  have hfc : h'.objs.size ≠ c':=Nat.ne_of_gt hlt
  have nf : H h'.objs.size = none:=I.hok.fresh (by lia)
  have nc : H c' = none:=I.hok.fresh hge
  let H2 : Hp:=upd (upd (upd H P (.tbl #[rawInt lp.line,rawInt lp.col,.ref c'])) c' (lH c' (X.env.qual ++ "<lambda>"))) h'.objs.size (lamO h'.objs.size (X.env.qual ++ "<lambda>") params body scope X.env.cells c')
  have eP : H2 P = some (.tbl #[rawInt lp.line,rawInt lp.col,.ref c']):=by
   show upd _ _ _ _ = _
   rw [aH hfP.symm,aH hcP.symm,aD]
  have ec : H2 c' = some (lH c' (X.env.qual ++ "<lambda>")):=by
   show upd _ _ _ _ = _
   rw [aH hfc.symm,aD]
  have ef : H2 h'.objs.size = some (lamO h'.objs.size (X.env.qual ++ "<lambda>") params body scope X.env.cells c'):=aD
  have eo : ∀ b,b ≠ P→b ≠ c'→b ≠ h'.objs.size→H2 b = H b:=fun b h1 h2 h3=>by
   show upd _ _ _ _ = _
   rw [aH h3,aH h2,aH h1]
  have old : ∀ b o,H b = some o→b ≠ P→H2 b = some o:=fun b o e hb=>by
   rw [eo b hb (aJ e nc) (aJ e nf)]; exact e
  have I2 : Inv X pins σ H2 { s with heap:=h'.push (PySem.W.kla_obj "<lambda>" (X.env.qual ++ "<lambda>") params body scope clos ((X.mg "__name__").getD .none) c' ctv),toks:=tk }:=by
   refine I.step (g':=s.gens) (d':=s.drawn) (ch:=[]) (fun _ z=>absurd z (by simp)) (fun b o _ _ _ e n=>hgt b o (fun z=>by rw [z,hP] at n; cases n) e) (fun b o _ _ _ e n=>⟨o.slots,hgt b o (fun z=>by rw [z,hP] at n; cases n) e⟩)
    (fun b o _ e n=>?_) (fun b o _ e=>?_) (fun b xs e=>old b _ e fun z=>by rw [z,hP] at e; cases e) (fun b o u e=>old b _ e fun z=>by rw [z,hP] at e; cases e) (fun b ps e=>?_) (fun m hm=>?_) (fun b o e=>?_) I.bare
   ·rw [eo b (fun z=>by rw [z,hP] at n; cases n) (Nat.ne_of_lt (Nat.lt_of_lt_of_le (hsz b o e) hge)) (Nat.ne_of_lt (Nat.lt_of_lt_of_le (hsz b o e) (Nat.le_trans hge (Nat.le_of_lt hlt))))]
    exact n
   ·by_cases hb : b = P
    ·exact ⟨_,by rw [hb]; exact Heap.get?_push_of_some _ htb⟩
    ·exact ⟨o,hgt b o hb e⟩
   ·by_cases hb : b = P
    ·rw [hb] at e ⊢
     rw [hP] at e; cases e
     exact ⟨#[rawInt lp.line,rawInt lp.col,.ref c'],by rw [eP]; simp⟩
    ·exact ⟨#[],by rw [old b _ e hb]; simp⟩
   ·exact (hm.extBut hx hPL).push _
   ·by_cases hbf : b = h'.objs.size
    ·subst hbf
     rw [ef] at e; cases e
     exact vZ ⟨clos,_,ctv,c1,c2,Heap.get?_push_size _ rfl⟩
    ·by_cases hbc : b = c'
     ·subst hbc
      rw [ec] at e; cases e
      refine aBt ?_
      obtain ⟨c₂,oc,vs,t,e2,hoc,r⟩:=hrec
      exact ⟨c₂,oc,vs,t,e2,Heap.get?_push_of_some _ hoc,r⟩
     ·by_cases hbP : b = P
      ·subst hbP
       rw [eP] at e; cases e
       exact Heap.get?_push_of_some _ htb
      ·rw [eo b hbP hbc hbf] at e
       refine (I.hok b o e).stay (fun d u hd q=>hgt d u ?_ q) (fun d q=>old d _ q fun z=>by rw [z,hP] at q; cases q) fun d xs q=>old d _ q fun z=>by rw [z,hP] at q; cases q
       rintro rfl
       rcases hd with z | z
       ·exact hbP z.symm
       ·rw [hP] at z; cases z
  exact ⟨.ref h'.objs.size,H2,I2,rfl,h _ c' H2 (.inr ⟨c',eP,ec⟩) old ec ef⟩
 ·-- again
  have hPo : s.heap.get? P = some (PySem.W.tabObj #[rawInt lp.line,rawInt lp.col,.ref c']):=I.hok P _ hP
  refine PySem.W.kla_makeFunctionHit (mg:=X.mg) ecl I.ok.glob I.globs C.code (C.hd.keeps I.bk) hPo uX aAo (C.at I hP) fun ctv h' tk hk hge=>?_
  have nf : H h'.objs.size = none:=I.hok.fresh hge
  let H2 : Hp:=upd H h'.objs.size (lamO h'.objs.size (X.env.qual ++ "<lambda>") params body scope X.env.cells c')
  have ef : H2 h'.objs.size = some (lamO h'.objs.size (X.env.qual ++ "<lambda>") params body scope X.env.cells c'):=aD
  have old : ∀ b o,H b = some o→H2 b = some o:=fun b o e=>by
   show upd _ _ _ _ = _
   rw [aH (aJ e nf)]; exact e
  have hgt : ∀ b o,s.heap.get? b = some o→(h'.push (PySem.W.kla_obj "<lambda>" (X.env.qual ++ "<lambda>") params body scope clos ((X.mg "__name__").getD .none) c' ctv)).get? b = some o:=fun b o e=>Heap.get?_push_of_some _ (hk b o e)
  have I2 : Inv X pins σ H2 { s with heap:=h'.push (PySem.W.kla_obj "<lambda>" (X.env.qual ++ "<lambda>") params body scope clos ((X.mg "__name__").getD .none) c' ctv),toks:=tk }:=by
   refine I.step (g':=s.gens) (d':=s.drawn) (ch:=[]) (fun _ z=>absurd z (by simp)) (fun b o _ _ _ e n=>hgt b o e) (fun b o _ _ _ e n=>⟨o.slots,hgt b o e⟩)
    (fun b o _ e n=>?_) (fun b o _ e=>⟨o,hgt b o e⟩) (fun b xs e=>old b _ e) (fun b o u e=>old b _ e) (fun b ps e=>⟨#[],by rw [old b _ e]; simp⟩) (fun m hm=>(hm.keeps hk).push _) (I.hok.laid hgt hge (vZ ⟨clos,_,ctv,c1,c2,Heap.get?_push_size _ rfl⟩)) I.bare
   ·show upd _ _ _ _ = _
    rw [aH (Nat.ne_of_lt (Nat.lt_of_lt_of_le (hsz b o e) hge))]
    exact n
  exact ⟨.ref h'.objs.size,H2,I2,rfl,h _ c' H2 (.inr ⟨c',old _ _ hP,old _ _ hc'⟩) (fun b o e _=>old b o e) (old _ _ hc') ef⟩
end
end L2
namespace L2
open PySem PySem.Spec PyProof.Rows
def aAp (X : Cx) (id : String) (ks : List Str) (r : St→List V→List V→Hp→VK→Prop) : Prop :=
 ∀ (pins : List (Addr × Obj)) (s : Shared) (σ : St) (H : Hp) (vs zs : List V) (us ws : List Value) (Q : VK),Inv X pins σ H s→Vals vs us→Vals zs ws→r σ vs zs H Q →
  wpAny (model X.prog X.w) X.A (call (.builtin id) us (ks.zip ws)) (EP X pins σ Q) X.xe s
def tCBK (r : St→List V→List V→Hp→VK→Prop) (t tk : TA) : TE:=fun σ H Q=>t σ H fun vs H1=>tk σ H1 fun zs H2=>r σ vs zs H2 Q
section
variable {X : Cx} {x : Str} {p pos : Pos} {e : Expr} {es : List Expr} {kws : List Keyword} {t tk : TA} {id : String} {ks : List Str} {r : St→List V→List V→Hp→VK→Prop}
theorem aAq (hc : aAp X id ks r) (hg : Gl X x) (hm : X.mg x = none) (hv : bootBuiltins x = some (.builtin id)) (ha : PA X (e :: es) t) (hkw : PK X kws tk) (hn : x ≠ "__name__" := by decide) (hdb : (x == ("__debug__" : Str)) = false:=by decide)
  (hks : (backToKw pos (keywordEach kws X.env)).filterMap (·.1) = ks:=by rfl)
  (he : backTo pos (starEach (e :: es) X.env) = (false,eval e X.env) :: backTo pos (starEach es X.env):=by rfl)
  (hplain : (backTo pos (starEach (e :: es) X.env)).any (·.1) = false:=by rfl)
  (hall : (backToKw pos (keywordEach kws X.env)).all (·.1.isSome) = true:=by rfl)
  (hno : (backToKw pos (keywordEach kws X.env)).any (·.1.isNone) = false:=by rfl) : PE X (.Call (.Name x p) (e :: es) kws pos) (tCBK r t tk):=by
 intro pins s σ H Q I h
 refine wpAny_Call_Name_kw (iS I hg hm hv ?_ hn hdb)
 refine PyProof.Rows.callWith_kw (thn (ha pos pins s σ H _ I h) fun us s1 ⟨vs,H1,I1,r1,q1⟩=>?_) he hplain hall hno
 refine thn (hkw pos pins s1 σ H1 _ I1 q1) fun ws s2 ⟨zs,H2,I2,rz,q2⟩=>?_
 rw [hks]
 exact hc pins s2 σ H2 vs zs us ws Q I2 r1 rz q2
end
def KOut (za zb : Int) (ns out : List Int) : Prop:=∃ ps : List (Int × Int),ps.Perm (ns.map fun z=>((z - za) % zb,z))∧out = ps.map (·.2)∧ps.Pairwise fun p q=>p.1 ≤ q.1
def aDN (X : Cx) (qual : Str) (params : Arguments) (body : Expr) (scope : Scope) (ia ib : Nat) : St→List V→List V→Hp→VK→Prop:=fun σ vs zs H Q =>
 ∃ (l f c : Addr) (ns : List Int) (za zb : Int),vs = [.ref l]∧zs = [.ref f]∧SqL X.K H l (ns.map V.int)∧ns.length < 64∧H f = some (lamO f qual params body scope X.env.cells c)∧H c = some (lH c qual) ∧
  σ[ia]? = some (some (.int za))∧σ[ib]? = some (some (.int zb))∧0 < zb∧∀ (r : Addr) (out : List Int),H r = none→KOut za zb ns out→Q (.ref r) (upd H r (.lst (out.map V.int)))
theorem qS : ∀ {ns : List Int} {vs : List Value},Vals (ns.map V.int) vs→IntsAre vs ns
 | [],_,.nil=>.nil
 | _ :: _,_,.cons ⟨t,e⟩ r=>by subst e; exact .cons _ t (qS r)
structure LamS (X : Cx) (qual : Str) (params : Arguments) (body : Expr) (scope : Scope) (y a b : Str) (ia ib : Nat) : Prop where
 bd : ∃ p1 p2 p3 p4 p5,body = .BinOp (.BinOp (.Name y p1) .Sub (.Name a p2) p3) .Mod (.Name b p4) p5
 bind : ∀ clos pm c ctv v,bindArgs (PySem.W.kla_fn "<lambda>" qual params body scope clos pm (.ref c) ctv) ⟨[v],[]⟩ = pure [(y,v)]
 na : X.N[ia]? = some a
 nb : X.N[ib]? = some b
 ca : X.env.scope.names.lookup a = some .cell
 cb : X.env.scope.names.lookup b = some .cell
 ly : scope.names.lookup y = some .local
 fa : scope.names.lookup a = some .free
 fb : scope.names.lookup b = some .free
 ma : (a,NameKind.free)∈scope.names
 mb : (b,NameKind.free)∈scope.names
 nocell : ∀ z∈scope.names,z.2 ≠ .cell
 kind : scope.kind = .function
 co : scope.isCoroutine = false
 gen : scope.isGenerator = false
 dy : (y == ("__debug__" : Str)) = false
 da : (a == ("__debug__" : Str)) = false∧(a == ("__classdict__" : Str)) = false
 db : (b == ("__debug__" : Str)) = false∧(b == ("__classdict__" : Str)) = false
theorem yA {X : Cx} {qual : Str} {params : Arguments} {body : Expr} {scope : Scope} {y a b : Str} {ia ib k : Nat} (S : LamS X qual params body scope y a b ia ib) (hr : Room k X.A) :
  aAp X "sorted" ["key"] (aDN X qual params body scope ia ib):=by
 intro pins s σ H vs zs us ws Q I r rz h
 obtain ⟨l,f,c,ns,za,zb,rfl,rfl,hl,h64,hf,hc,sa,sb,hb0,q⟩:=h
 obtain ⟨u1,rfl,r1⟩:=r.one
 obtain rfl : u1 = Value.ref l:=r1
 obtain ⟨w1,rfl,rw1⟩:=rz.one
 obtain rfl : w1 = Value.ref f:=rw1
 obtain ⟨its,rv,pl,hz⟩:=I.list hl
 have hI:=qS rv
 obtain ⟨m,F⟩:=I.fr
 obtain ⟨p1,p2,p3,p4,p5,rfl⟩:=S.bd
 obtain ⟨clos,pm,ctv,c1,c2,hfo⟩:=(I.hok f _ hf).1
 have hcr : s.heap.CodeRec (.ref c) qual:=(I.hok c _ hc).1
 obtain ⟨m',hn',hlk⟩:=I.loc
 have cellA : ∃ ca ta,clos.lookup a = some ca∧s.heap.IsCell ca (some (.int za ta)):=by
  obtain ⟨u,⟨ta,rfl⟩,lk⟩:=hlk ia a (.int za) S.na sa (.inr (.inl S.ca))
  obtain ⟨ca,e1⟩:=c2 a S.ma
  rcases lk with ⟨z,_⟩ | ⟨_,ca',e2,e3⟩
  ·have z' : X.env.scope.names.lookup a = some .local:=z
   rw [S.ca] at z'; cases z'
  ·have e4:=c1 a ca e1
   rw [e2] at e4; cases e4
   exact ⟨ca,ta,e1,e3⟩
 have cellB : ∃ cb tb,clos.lookup b = some cb∧s.heap.IsCell cb (some (.int zb tb)):=by
  obtain ⟨u,⟨tb,rfl⟩,lk⟩:=hlk ib b (.int zb) S.nb sb (.inr (.inl S.cb))
  obtain ⟨cb,e1⟩:=c2 b S.mb
  rcases lk with ⟨z,_⟩ | ⟨_,cb',e2,e3⟩
  ·have z' : X.env.scope.names.lookup b = some .local:=z
   rw [S.cb] at z'; cases z'
  ·have e4:=c1 b cb e1
   rw [e2] at e4; cases e4
   exact ⟨cb,tb,e1,e3⟩
 obtain ⟨ca,ta,ea,ha⟩:=cellA
 obtain ⟨cb,tb,eb,hb⟩:=cellB
 have noL : ∀ b' (o : Obj),s.heap.get? b' = some o→(∀ es ep,o.data ≠ .dict es ep)→b' ≠ X.env.locals:=fun b' o e d z=>by
  obtain ⟨o',es,ep,e',d',_⟩:=F.ns
  rw [z,e'] at e; cases e
  exact d _ _ d'
 have len : (ns.map fun z=>(z - za) % zb).length = its.length:=by rw [List.length_map,hI.length]
 refine ksk_sorted (b:=false) (f:=.ref f) (kz:=ns.map fun z=>(z - za) % zb) F aBd pl.isList len (by rw [hI.length]; exact h64) (ksk_s1 _ _) (fun x=>ksk_l1 _ _) (fun x=>ksk_t1 _ _) ?_ ?_
 ·-- one key
  intro i v k hv hk h tk own F' N'
  have at_ : ∀ b' u,b' ≠ X.env.locals→s.heap.get? b' = some u→h.get? b' = some u:=fun b' u hne e=>by
   cases z : X.base.get? b' with
   | some o =>
    have:=I.bk b' o z
    rw [e] at this; cases this
    exact F'.keep b' _ z
   | none=>exact (N' (b',u) (List.mem_append_left _ (iP hne z e))).1
  have hfo':=at_ f _ (noL f _ hfo (by intro es ep z; cases z)) hfo
  have hcr' : h.CodeRec (.ref c) qual:=by
   obtain ⟨c0,o,vs0,t0,e0,ho,hd,hv0⟩:=hcr
   refine ⟨c0,o,vs0,t0,e0,at_ _ _ (noL _ _ ho (by rw [hd]; intro es ep z; cases z)) ho,hd,hv0⟩
  have ha' : h.IsCell ca (some (.int za ta)):=by
   obtain ⟨o,ho,hd⟩:=ha
   exact ⟨o,at_ _ _ (noL _ _ ho (by rw [hd]; intro es ep z; cases z)) ho,hd⟩
  have hb' : h.IsCell cb (some (.int zb tb)):=by
   obtain ⟨o,ho,hd⟩:=hb
   exact ⟨o,at_ _ _ (noL _ _ ho (by rw [hd]; intro es ep z; cases z)) ho,hd⟩
  obtain ⟨z,tz,rfl,rfl⟩ : ∃ z tz,v = .int z tz∧k = (z - za) % zb:=by
   obtain ⟨n,t,e⟩:=hI.all v (List.mem_of_getElem? hv)
   refine ⟨n,t,e,?_⟩
   rw [List.getElem?_map] at hk
   have hn:=hI.nums
   have e1 : (its.map numOf)[i]? = some n:=by rw [List.getElem?_map,hv,e]; rfl
   rw [hn] at e1
   rw [e1] at hk
   exact (Option.some.inj hk).symm
  have hroom : X.A.in1.in1.depth < recursionLimit:=by
   have:=hr.dp
   show X.A.depth < _
   lia
  refine wpAny_call (PySem.W.kla_callFunE hroom hfo' rfl S.co S.gen rfl hcr' ?_)
  rw [S.bind]
  refine wpAny_pure (wpAny_newFunctionEnv S.nocell (fun x hx=>by rw [List.mem_singleton.mp hx]; exact S.ly) (fun h₁ hns hsb=>⟨((I.ok.mod.nolimit).keeps F'.keep).fresh _ hsb,?_⟩) S.kind)
  have hk₁ : ∀ b o,h.get? b = some o→h₁.get? b = some o:=fun b o e=>hsb.extBut b o (Nat.ne_of_lt (Heap.lt_size e)) (Heap.get?_push_of_some _ e)
  have ha₁:=ha'.keeps hk₁
  have hb₁:=hb'.keeps hk₁
  refine PySem.W.kla_codeExpr ?_
  refine wpAny_BinOp (wpAny_BinOp ?_)
  refine wpAny_Name (wpAny_loadName_local S.kind S.ly hns (v:=.int z tz) (by simp) ?_) S.dy
  refine wpAny_Name (wpAny_loadName_free S.kind S.fa ea ha₁ ?_ S.da.2) S.da.1
  refine sub_int ?_
  refine wpAny_Name (wpAny_loadName_free S.kind S.fb eb hb₁ ?_ S.db.2) S.db.1
  refine mod_int' (by lia) ?_
  rw [Int.fmod_eq_emod_of_nonneg _ (by lia)]
  refine KskEnd.intro (news':=fQ X.base s.heap X.env.locals ++ own) ⟨F'.ns.keeps hk₁,fun b o e=>hk₁ b o (F'.keep b o e),F'.above⟩ (fun p hp=>⟨hk₁ _ _ (N' p hp).1,(N' p hp).2⟩) fun p hp=>hp
 ·-- the list
  intro D h' tk out cc F' N' hlt kout
  have hD:=rC I N' hlt
  obtain ⟨ps,hp,ho,hs⟩:=kout
  have hmem : ∀ p∈ps,∃ n t,p.2 = .int n t:=fun p hp'=>by
   have:=hp.mem_iff.mp hp'
   exact hI.all _ (List.of_mem_zip this).2
  have hz' : ((ns.map fun z=>(z - za) % zb).zip its).map (fun p=>(p.1,numOf p.2)) = ns.map fun z=>((z - za) % zb,z):=by
   have hn:=hI.nums
   rw [← hn]
   have go : ∀ (l : List Value),((((l.map numOf).map fun z=>(z - za) % zb).zip l).map fun p=>(p.1,numOf p.2)) = (l.map numOf).map fun z=>((z - za) % zb,z):=by
    intro l
    induction l with
    | nil=>rfl
    | cons x l ih=>simp only [List.map_cons,List.zip_cons_cons,ih]
   exact go its
  have vals : Vals ((ps.map fun p=>(p.1,numOf p.2)).map (fun p=>V.int p.2)) (ps.map Prod.snd):=by
   have go : ∀ (l : List (Int × Value)),(∀ p∈l,∃ n t,p.2 = .int n t)→Vals ((l.map fun p=>(p.1,numOf p.2)).map (fun p=>V.int p.2)) (l.map Prod.snd):=by
    intro l
    induction l with
    | nil=>intro _; exact .nil
    | cons x l ih =>
     intro hx
     refine .cons ?_ (ih fun p hp=>hx p (List.mem_cons_of_mem _ hp))
     obtain ⟨n,t,e⟩:=hx x List.mem_cons_self
     show ∃ t,x.2 = Value.int (numOf x.2) t
     rw [e]; exact ⟨t,rfl⟩
   exact go ps hmem
  have hout : KOut za zb ns ((ps.map fun p=>(p.1,numOf p.2)).map (·.2)):=by
   refine ⟨ps.map fun p=>(p.1,numOf p.2),?_,rfl,?_⟩
   ·rw [← hz']; exact hp.map _
   ·refine List.pairwise_map.mpr (hs.imp fun {p q} z=>?_)
    simpa using z
  have hDo : h'.get? D = some (seqObj "list" out cc):=(N' _ List.mem_cons_self).1
  have I2 : Inv X pins σ (upd H D (.lst (((ps.map fun p=>(p.1,numOf p.2)).map (·.2)).map V.int))) { s with heap:=h',toks:=tk }:=by
   refine I.fromK F F' (fun p hp=>N' p (List.mem_cons_of_mem _ hp)) hD ⟨?_,ps.map Prod.snd,cc,?_,?_⟩
   ·have h1:=hp.length_eq
    rw [List.length_zip,len,Nat.min_self] at h1
    simp only [List.length_map]
    rw [h1,hI.length]
    exact Nat.le_trans (Nat.le_of_lt h64) (by decide)
   ·have ev:=vals; simp only [List.map_map] at ev ⊢; exact ev
   ·rw [hDo,← ho]
  exact ⟨.ref D,_,I2,rfl,q D _ (I.hok.freshN hD) hout⟩
end L2
namespace L2
open PySem PySem.Spec PyProof.Rows
def BmOk (mg : Str→Option Value) (base : Heap) : Prop:=∃ bm o,mg "__builtins__" = some (.ref bm)∧bm ≠ builtinsNs∧bm ≠ mainGlobals∧base.get? bm = some o∧o.cls = .type "module" ∧ o.dict = some builtinsNs∧o.data = .plain
def rM (ts : List Addr) (H : Hp) : Prop:=(∀ P∈ts,H P = some (.tbl #[]))∧∀ b,H b = none∨(b∈ts∧H b = some (.tbl #[]))∨∃ o xs,H b = some (.frz o (.lst xs))
theorem aAr {P : Program} {w : World} {K : PySem.W.Frag} {mg mb : Str→Option Value} {CX : CXT} {k : Nat} {fa a : Addr} {fd : FuncData} {x : Str} {sp : Sp} {s₁ : Shared} {vs : List Value} {ns : List Int} {ts : List Addr}
  (KX : K.In s₁.heap) (hns : s₁.heap.Ns mainGlobals mg) (hb : s₁.heap.Ns builtinsNs mb) (hbb : ∀ x : Str,x ≠ "__name__" → mb x = bootBuiltins x) (hlim : s₁.heap.NoLimit) (hg : s₁.gens = #[]) (hbm : BmOk mg s₁.heap)
  (hts : ∀ P∈ts,s₁.heap.get? P = some (PySem.W.tabObj #[])) (hcd : ∀ P∈ts,∃ c,PySem.W.codeHdIn K c P = true) (hkt : ∀ P∈ts,K.lookup P = none)
  (ha : s₁.heap.get? a = some { cls:=.type "list",data:=.seq vs.toArray }) (hi : IntsAre vs ns) (hl : ns.length ≤ sizeLine) (hr : Room k callerA)
  (F : ∀ base : Heap,K.In base→base.Ns mainGlobals mg→BmOk mg base→FnOk P w K mg base CX k fa fd [x] sp) (hbind : ∀ (s : Shared) (u : Value),BindsTo s fd ⟨[u],[]⟩ [(x,u)])
  (hsp : ∀ H : Hp,rM ts H→SqL K H a (ns.map V.int)→sp [.ref a] H (fun v _=>v = .bl true) fun _ _ _=>False)
  (hCX : ∀ H e s',CX [] H s₁ (fun _ _ _=>False) e s'→False) :
  codeAny (model P w) callerA (.call (.ref fa) ⟨[.ref a],[]⟩) (fun r s'=>r = .ok (.ret (.bool true))∧OldK s₁.heap s'.heap∧s'.os = s₁.os∧AllBare s'.gens) s₁:=by
 have rv:=kE hi
 have lenV:=hi.length
 have hat : a ∉ ts:=fun z=>by
  have:=hts a z
  rw [ha] at this; cases this
 have core : ∀ H : Hp,rM ts H→SqL K H a (ns.map V.int)→HOk P w H s₁.heap→(∀ b,H b ≠ none→b = a∨b∈ts)→(H a ≠ none→K.lookup a = none) →
   codeAny (model P w) callerA (.call (.ref fa) ⟨[.ref a],[]⟩) (fun r s'=>r = .ok (.ret (.bool true))∧OldK s₁.heap s'.heap∧s'.os = s₁.os∧AllBare s'.gens) s₁:=by
  intro H hO hS hok hA hK
  have base_of : ∀ {b : Addr} {o : Obj},s₁.heap.get? b = some o→H b = none→(hidT s₁.heap H).get? b = some o:=fun e n=>aBc e n
  have noA : ∀ {b : Addr} {o : Obj},s₁.heap.get? b = some o→(∀ v n,o.data ≠ .seq v n)→(∀ v,o.data ≠ .fields v)→H b = none:=fun {b o} e d1 d2=>by
   cases q : H b with
   | none=>rfl
   | some u =>
    rcases hA b (by rw [q]; simp) with e' | e'
    ·subst e'
     rw [ha] at e; cases e
     exact absurd rfl (d1 _ _)
    ·rw [hts b e'] at e; cases e
     exact absurd rfl (d2 _)
  have nsK : ∀ {b : Addr} {m : Str→Option Value},s₁.heap.Ns b m→(hidT s₁.heap H).Ns b m:=fun {b m} ⟨o,es,ep,e,d,r⟩=>⟨o,es,ep,base_of e (noA e (by rw [d]; intro v n z; cases z) (by rw [d]; intro v z; cases z)),d,r⟩
  have hKb : K.In (hidT s₁.heap H):=fun b o e=>base_of (KX b o e) (by
   cases q : H b with
   | none=>rfl
   | some u =>
    rcases hA b (by rw [q]; simp) with e' | e'
    ·subst e'
     rw [hK (by rw [q]; simp)] at e; cases e
    ·rw [hkt b e'] at e; cases e)
  have hB : BmOk mg (hidT s₁.heap H):=by
   obtain ⟨bm,o,b1,b2,b3,b4,b5,b6,b7⟩:=hbm
   exact ⟨bm,o,b1,b2,b3,base_of b4 (noA b4 (by rw [b7]; intro v n z; cases z) (by rw [b7]; intro v z; cases z)),b5,b6,b7⟩
  have hM : Mod K mg (hidT s₁.heap H):=⟨hKb,nsK hns,⟨mb,nsK hb,hbb⟩,let ⟨mc,h1,h2⟩:=hlim; ⟨mc,nsK h1,h2⟩⟩
  have e0 : Env0 P w K mg (hidT s₁.heap H) callerA [] s₁ H:=⟨rfl,hM,fun b o e=>aCp e,Nat.le_of_eq (zL _ _),trivial,fun b hb=>absurd (show b∈([] : List Addr) from hb) (by simp),hok,.of_eq hg⟩
  refine codeAny_mono ((F _ hKb (nsK hns) hB).run callerA [] s₁ H ⟨[.ref a],[]⟩ [.ref a] [.ref a] _ _ hr e0 (hbind s₁ (.ref a)) (.cons rfl .nil) (hsp H hO hS)) fun r s' h=>?_
  cases r with
  | error e=>exact (hCX H e s' h).elim
  | ok fl =>
   cases fl with
   | next=>exact False.elim h
   | brk=>exact False.elim h
   | cont=>exact False.elim h
   | ret u =>
    obtain ⟨v,H',os,bare,un,hok',r',q⟩:=h
    have q' : v = .bl true:=q
    subst q'
    obtain rfl : u = Value.bool true:=r'
    refine ⟨rfl,⟨fun b o e=>?_,fun b o e=>un.there b o e (by simp)⟩,os,bare⟩
    cases q : H b with
    | none=>exact .inl (un.keep b o e q (by intro z; exact absurd (show b∈([] : List Addr) from z) (by simp)) (by simp))
    | some u =>
     rcases hO.2 b with z | ⟨zt,z⟩ | ⟨ob,xs,z⟩
     ·rw [q] at z; cases z
     ·obtain ⟨more,z2⟩:=un.tbls b _ z
      have e1:=hts b zt
      rw [e] at e1; cases e1
      have e2 : s'.heap.get? b = some { cls:=.none,data:=.fields (#[] ++ more) }:=hok' b _ z2
      obtain ⟨c,hc⟩:=hcd b zt
      obtain ⟨oc,vsc,_,_,_,_,_,_,_,g1,g2,g3,g4,_⟩:=PySem.W.codeHd_of_K KX hc
      exact .inr (.inl ⟨⟨c,oc,vsc,g1,g2,g3,g4⟩,rfl,#[],more,rfl,e2⟩)
     ·have z2:=un.frzs b ob _ z
      obtain ⟨e1,_⟩:=hok b _ z
      obtain ⟨e2,_⟩:=hok' b _ z2
      rw [e] at e1; cases e1
      exact .inl e2
 have tabOk : ∀ (H : Hp),(∀ P∈ts,H P = some (.tbl #[]))→True:=fun _ _=>trivial
 classical
 cases hk : K.lookup a with
 | some o =>
  have e:=KX a o hk
  rw [ha] at e
  cases e
  refine core (fun b=>if b∈ts then some (.tbl #[]) else none) ⟨fun P hP=>if_pos hP,fun b=>?_⟩ (.inr ⟨_,vs.toArray,_,hk,rfl,rfl,rfl,by rw [List.size_toArray,lenV]; exact hl,by simpa using rv⟩) (fun b u z=>?_) (fun b z=>?_) fun z=>absurd (if_neg hat) z
  ·by_cases hb : b∈ts
   ·exact .inr (.inl ⟨hb,if_pos hb⟩)
   ·exact .inl (if_neg hb)
  ·by_cases hb : b∈ts
   ·have z':=(if_pos hb).symm.trans z
    cases z'
    exact hts b hb
   ·have z':=(if_neg hb).symm.trans z
    cases z'
  ·by_cases hb : b∈ts
   ·exact .inr hb
   ·exact absurd (if_neg hb) z
 | none =>
  refine core (fun b=>if b = a then some (.frz { cls:=.type "list",data:=.seq vs.toArray } (.lst (ns.map V.int))) else if b∈ts then some (.tbl #[]) else none) ⟨fun P hP=>?_,fun b=>?_⟩ (.inl (.inr ⟨{ cls:=.type "list",data:=.seq vs.toArray },if_pos rfl⟩)) (fun b u z=>?_) (fun b z=>?_) fun _=>hk
  ·have : P ≠ a:=fun z=>hat (z ▸ hP)
   show (if P = a then _ else if P∈ts then _ else _) = _
   rw [if_neg this,if_pos hP]
  ·by_cases hb : b = a
   ·exact .inr (.inr ⟨_,_,if_pos hb⟩)
   ·by_cases ht : b∈ts
    ·exact .inr (.inl ⟨ht,by show (if b = a then _ else if b∈ts then _ else _) = _; rw [if_neg hb,if_pos ht]⟩)
    ·exact .inl (by show (if b = a then _ else if b∈ts then _ else _) = _; rw [if_neg hb,if_neg ht])
  ·by_cases hb : b = a
   ·have z':=(if_pos hb).symm.trans z
    cases z'
    subst hb
    exact ⟨ha,by rw [List.length_map]; exact hl,vs,_,rv,ha⟩
   ·have z1 : (if b∈ts then some (HO.tbl #[]) else none) = some u:=(if_neg hb).symm.trans z
    by_cases ht : b∈ts
    ·rw [if_pos ht] at z1; cases z1
     exact hts b ht
    ·rw [if_neg ht] at z1; cases z1
  ·by_cases hb : b = a
   ·exact .inl hb
   ·by_cases ht : b∈ts
    ·exact .inr ht
    ·exact absurd (by show (if b = a then _ else if b∈ts then _ else _) = _; rw [if_neg hb,if_neg ht]) z
theorem aBu {l : PySem.W.OpenLaw} {n k : Nat} {q : Program} {loose : List Str} {XP : (Str→Option Value)→Heap→Prop} {YP : World→Heap→Prop} {d : DefRec} {K : Params→PySem.W.Frag} {CX : World→CXT} {sp : World→Sp} {x : Str} {ts : List Addr}
  (hn : l.most = some n) (hn2 : n ≤ sizeLine) (hdf : d.params.defaults = []) (hr : Room k callerA)
  (hY : ∀ (w : World) (h : Heap),YP w h→(K w.params).In h) (hT : ∀ (w : World) (h : Heap),YP w h→∀ P∈ts,h.get? P = some (PySem.W.tabObj #[]))
  (hcd : ∀ (w : World),∀ P∈ts,∃ c,PySem.W.codeHdIn (K w.params) c P = true) (hkt : ∀ (w : World),∀ P∈ts,(K w.params).lookup P = none)
  (F : ∀ (w : World) (mg : Str→Option Value) (fa : Addr) (h : Heap),(K w.params).In h→h.Ns mainGlobals mg→mg d.name = some (.ref fa) →
   ∃ fd : FuncData,(∀ (s : Shared) (u : Value),BindsTo s fd ⟨[u],[]⟩ [(x,u)]) ∧
    ∀ base : Heap,(K w.params).In base→base.Ns mainGlobals mg→BmOk mg base→FnOk l.prog w (K w.params) mg base (CX w) k fa fd [x] (sp w))
  (hsp : ∀ (w : World) (H : Hp) (a : Addr) (ns : List Int),ns.length ≤ n→rM ts H→SqL (K w.params) H a (ns.map V.int)→sp w [.ref a] H (fun v _=>v = .bl true) fun _ _ _=>False)
  (hCX : ∀ (w : World) (H : Hp) (s : Shared) (e : Value) (s' : Shared),CX w [] H s (fun _ _ _=>False) e s'→False) :
  PySem.W.WalkO q loose XP YP l.row.toRowW d [] (fun f vs=>PySem.call f vs):=by
 refine Att.attach_call hn hdf fun w s₀ s₁ mg mb fa o pm cd doc a vs ns G Y ho hd hcd' hmg hobj hints hlen hg=>?_
 have KX:=hY w _ Y
 obtain ⟨fd,hb,hF⟩:=F w mg fa _ KX G.T.g hmg
 have hB : BmOk mg s₁.heap:=by
  obtain ⟨bm,ob,b1,b2,b3,b4,b5,b6⟩:=G.T.bmain
  refine ⟨bm,ob,b1,b2,fun z=>?_,b3,b4,b5,b6⟩
  obtain ⟨o',es,ep,e,hd',_⟩:=G.T.g
  rw [z,e] at b3; cases b3; rw [hd'] at b6; cases b6
 exact aAr KX G.T.g G.T.b G.T.builtins G.T.nolimit hg hB (hT w _ Y) (hcd w) (hkt w) hobj hints (Nat.le_trans hlen hn2) hr hF hb (fun H hO hS=>hsp w H a ns hlen hO hS) fun H e s'=>hCX w H s₁ e s'
structure FunC (K : PySem.W.Frag) (x qual : Str) (st : Stmt) (f : Addr) (fd : FuncData) (c : Addr) : Prop where
 ex : ∃ (oc : Value) (od : Option Addr) (kV doc pm : Value) (an : Option Addr) (ct : Value) (osl : Array (Option Value)),
  fd = PySem.W.fnOf x qual (cK st) (bQ st) (aM st) .none kV doc pm an (.ref c) ct∧K.lookup f = some ⟨oc,od,.func fd,osl⟩∧PySem.W.codeIn K (.ref c) qual = true
 kp : PySem.W.keepIn K (.ref f) = true
theorem FunC.fun {K : PySem.W.Frag} {x qual : Str} {st : Stmt} {f : Addr} {fd : FuncData} {c : Addr} (F : FunC K x qual st f fd c) : Fun K x qual st f fd:=by
 obtain ⟨oc,od,kV,doc,pm,an,ct,osl,e,lk,hcd⟩:=F.ex
 exact ⟨⟨oc,od,kV,doc,pm,an,_,ct,osl,e,lk,hcd⟩,F.kp⟩
section
variable {P : Program} {w : World} {K : PySem.W.Frag} {mg : Str→Option Value} {base : Heap}
theorem FunC.ok {x qual : Str} {st : Stmt} {f : Addr} {fd : FuncData} {c : Addr} {N ps : List Str} {k : Nat} {sp : Sp} (F : FunC K x qual st f fd c) (S : aZ N ps (aM st)) (len : ∀ vs H Q E,sp vs H Q E→vs.length = ps.length)
  (hbody : ∀ (A : Around) (outer : List Env) (s : Shared) (H : Hp) (vs : List V) (Q : VK) (E : XK),Room k (A.deeper (envOfC qual (aM st) s.heap.objs.size f (.ref c)))→sp vs H Q E →
   ∃ t,PSs (cxOf CX0 P w K mg base N qual (aM st) f (.ref c) A outer s H E).nox (bQ st) t∧t { nx:=fun _ H'=>Q .non H',rt:=Q } (start N vs) H) : FnOk P w K mg base CX0 (k + 1) f fd ps sp:=by
 obtain ⟨oc,od,kV,doc,pm,an,ct,osl,rfl,lk,hcd⟩:=F.ex
 refine aB6 lk hcd S len fun A outer s H vs Q E hr hsp=>?_
 obtain ⟨t,h,q⟩:=hbody A outer s H vs Q E hr hsp
 exact ⟨t,h.nox,q⟩
theorem aCF {x qual : Str} {st : Stmt} {f c : Addr} {oc : Value} {od an : Option Addr} {osl : Array (Option Value)} {kV doc pm ct : Value} (l : K.lookup f = some ⟨oc,od,.func (PySem.W.fnOf x qual (cK st) (bQ st) (aM st) .none kV doc pm an (.ref c) ct),osl⟩)
  (hcd : PySem.W.codeIn K (.ref c) qual = true) (kp : PySem.W.keepIn K (.ref f) = true) : FunC K x qual st f (PySem.W.fnOf x qual (cK st) (bQ st) (aM st) .none kV doc pm an (.ref c) ct) c:=⟨⟨oc,od,kV,doc,pm,an,ct,osl,rfl,l,hcd⟩,kp⟩
theorem aCG {N : List Str} {qual : Str} {scope : Scope} {f c P' : Addr} {CX : CXT} {A : Around} {outer : List Env} {s : Shared} {H : Hp} {E : XK} (kb : K.In base) (hb : BmOk mg base) (hc : PySem.W.codeHdIn K c P' = true) :
  LamC (cxOf CX P w K mg base N qual scope f (.ref c) A outer s H E).nox c P':=⟨rfl,PySem.W.codeHd_of_K kb hc,hb⟩
end
end L2
namespace L2
open PySem PySem.Spec PyProof.Rows
def lI (sc scX : Scope) (y : Str × NameKind) : Bool:=match y.2 with
 | .cell=>(match sc.names.lookup y.1 with | some .cell=>true | _=>false)
 | .local=>(match sc.names.lookup y.1 with | some .local=>true | _=>false)
 | .free=>(match scX.names.lookup y.1 with | some .cell=>true | some .free=>true | _=>false)
 | _=>true
def aAs (NB : List Str) (src : List (Option Nat)) (sc : Scope) (N : List Str) (i : Nat) : Bool:=match NB[i]?,src[i]? with
 | some x,some (some j)=>(N[j]? == some x) && (match sc.names.lookup x with | some .free=>true | _=>false)
 | _,_=>true
def wA (sc : Scope) : Bool:=match sc.kind with | .function=>true | _=>false
def aAt (NB : List Str) (src : List (Option Nat)) (sc scX : Scope) (N : List Str) : Bool :=
 wA sc && decide NB.Nodup && (src.length == NB.length) && (sc.names.all (lI sc scX)) && (List.range NB.length).all (aAs NB src sc N)
theorem bR {NB : List Str} {src : List (Option Nat)} {sc : Scope} {X : Cx} (h : aAt NB src sc X.env.scope X.N = true) : eZ NB src sc X:=by
 unfold aAt at h
 simp only [Bool.and_eq_true,decide_eq_true_eq,beq_iff_eq,List.all_eq_true] at h
 obtain ⟨⟨⟨⟨h1,h2⟩,h3⟩,h4⟩,h5⟩:=h
 refine ⟨?_,h2,h3,fun y hy z=>?_,fun y hy z=>?_,fun y hy z=>?_,fun i x j e1 e2=>?_⟩
 ·unfold wA at h1
  split at h1
  ·assumption
  ·cases h1
 ·have:=h4 y hy
  obtain ⟨n,k⟩:=y
  obtain rfl : k = .cell:=z
  dsimp only [lI] at this ⊢
  split at this
  ·assumption
  ·cases this
 ·have:=h4 y hy
  obtain ⟨n,k⟩:=y
  obtain rfl : k = .local:=z
  dsimp only [lI] at this ⊢
  split at this
  ·assumption
  ·cases this
 ·have:=h4 y hy
  obtain ⟨n,k⟩:=y
  obtain rfl : k = .free:=z
  dsimp only [lI] at this ⊢
  split at this
  ·exact .inl (by assumption)
  ·exact .inr (by assumption)
  ·cases this
 ·have hi : i < NB.length:=(List.getElem?_eq_some_iff.mp e1).1
  have:=h5 i (List.mem_range.mpr hi)
  unfold aAs at this
  rw [e1,e2] at this
  simp only [Bool.and_eq_true,beq_iff_eq] at this
  refine ⟨this.1,?_⟩
  have t2:=this.2
  split at t2
  ·assumption
  ·cases t2
theorem dC {K : PySem.W.Frag} {a D : Addr} {xs : List V} {g : TG} {tt : TT} {te : TE} {fin : Hp→Prop} {σB : St} {H0 : Hp} (Pv : Nat→List V→St→Hp→Prop) (h0 : Pv 0 [] σB H0)
  (hl : ∀ i ys σ H,i ≤ xs.length→Pv i ys σ H→SqL K H a xs)
  (hs : ∀ i x ys σ H (Kt : V→St→Hp→Prop) (Kf : St→Hp→Prop),xs[i]? = some x→Pv i ys σ H →
   (∀ v σ2 H4,H4 D = some (.lst ys)→ys.length < sizeLine→Pv (i + 1) (ys ++ [v]) σ2 (upd H4 D (.lst (ys ++ [v])))→Kt v σ2 H4)→(∀ σ2 H3,Pv (i + 1) ys σ2 H3→Kf σ2 H3) →
   g x σ H fun σ2 H2=>tt σ2 H2 fun b H3=>if b = true then te σ2 H3 fun v H4=>Kt v σ2 H4 else Kf σ2 H3)
  (hd : ∀ ys σ H,Pv xs.length ys σ H→fin H) : dL (Itl K a) g tt te D fin σB H0:=by
 refine ⟨fun i m σ H=>m = xs.length - i∧i ≤ xs.length∧∃ ys,Pv i ys σ H,⟨xs.length,by simp,Nat.zero_le _,[],h0⟩,?_⟩
 rintro i m σ H ⟨rfl,hi,ys,p⟩
 have q:=hl i ys σ H hi p
 by_cases hlt : i < xs.length
 ·refine .inr ⟨⟨xs,xs[i],q,by simp [hlt]⟩,?_⟩
  rintro x H' ⟨rfl,y⟩
  exact hs i x ys σ _ (fun v σ2 H4=>∃ ys,H4 D = some (.lst ys)∧ys.length < sizeLine∧∃ m',m' < xs.length - i∧m' = xs.length - (i + 1)∧i + 1 ≤ xs.length∧∃ ys',Pv (i + 1) ys' σ2 (upd H4 D (.lst (ys ++ [v]))))
   (fun σ2 H3=>∃ m',m' < xs.length - i∧m' = xs.length - (i + 1)∧i + 1 ≤ xs.length∧∃ ys',Pv (i + 1) ys' σ2 H3) (y xs q) p
   (fun v σ2 H4 z1 z2 z3=>⟨ys,z1,z2,_,by lia,rfl,hlt,_,z3⟩) (fun σ2 H3 z=>⟨_,by lia,rfl,hlt,_,z⟩)
 ·have e : i = xs.length:=by lia
  subst e
  exact .inl ⟨⟨xs,q,Nat.le_refl _⟩,hd ys σ H p⟩
theorem dO {lo : Int} {n : Nat} {D : Addr} {g : TG} {tt : TT} {te : TE} {fin : Hp→Prop} {σB : St} {H0 : Hp} (Pv : Nat→List V→St→Hp→Prop) (h0 : Pv 0 [] σB H0)
  (hs : ∀ i ys σ H (Kt : V→St→Hp→Prop) (Kf : St→Hp→Prop),i < n→Pv i ys σ H →
   (∀ v σ2 H4,H4 D = some (.lst ys)→ys.length < sizeLine→Pv (i + 1) (ys ++ [v]) σ2 (upd H4 D (.lst (ys ++ [v])))→Kt v σ2 H4)→(∀ σ2 H3,Pv (i + 1) ys σ2 H3→Kf σ2 H3) →
   g (.int (lo + i)) σ H fun σ2 H2=>tt σ2 H2 fun b H3=>if b = true then te σ2 H3 fun v H4=>Kt v σ2 H4 else Kf σ2 H3)
  (hd : ∀ ys σ H,Pv n ys σ H→fin H) : dL (Itr lo n) g tt te D fin σB H0:=by
 refine ⟨fun i m σ H=>m = n - i∧i ≤ n∧∃ ys,Pv i ys σ H,⟨n,by simp,Nat.zero_le _,[],h0⟩,?_⟩
 rintro i m σ H ⟨rfl,hi,ys,p⟩
 by_cases hlt : i < n
 ·refine .inr ⟨hlt,?_⟩
  rintro x H' ⟨rfl,rfl⟩
  exact hs i ys σ _ (fun v σ2 H4=>∃ ys,H4 D = some (.lst ys)∧ys.length < sizeLine∧∃ m',m' < n - i∧m' = n - (i + 1)∧i + 1 ≤ n∧∃ ys',Pv (i + 1) ys' σ2 (upd H4 D (.lst (ys ++ [v]))))
   (fun σ2 H3=>∃ m',m' < n - i∧m' = n - (i + 1)∧i + 1 ≤ n∧∃ ys',Pv (i + 1) ys' σ2 H3) hlt p
   (fun v σ2 H4 z1 z2 z3=>⟨ys,z1,z2,_,by lia,rfl,hlt,_,z3⟩) (fun σ2 H3 z=>⟨_,by lia,rfl,hlt,_,z⟩)
 ·have e : i = n:=by lia
  subst e
  exact .inl ⟨Nat.le_refl _,hd ys σ H p⟩
end L2
namespace L2
open PySem PySem.Spec PyProof.Rows
section
variable {κ : Type} [DecidableEq κ]
def valV (kvs : List (κ × V)) (k : κ) : Option V:=(kvs.find? fun kv=>decide (kv.1 = k)).map (·.2)
def putK (kvs : List (κ × V)) (k : κ) (v : V) : List (κ × V) :=
 if (kvs.any fun kv=>decide (kv.1 = k)) = true then kvs.map (fun kv=>if kv.1 = k then (kv.1,v) else kv) else kvs ++ [(k,v)]
theorem cW {p : κ × V} {r : List (κ × V)} {k : κ} (e : p.1 = k) : valV (p :: r) k = some p.2:=by simp [valV,List.find?_cons,e]
theorem cX {p : κ × V} {r : List (κ × V)} {k : κ} (e : ¬ p.1 = k) : valV (p :: r) k = valV r k:=by simp [valV,List.find?_cons,e]
theorem jK (k : κ) : ∀ kvs : List (κ × V),(kvs.any fun kv=>decide (kv.1 = k)) = (valV kvs k).isSome
 | []=>rfl
 | p :: r=>by
  rw [List.any_cons]
  by_cases e : p.1 = k
  ·simp only [cW e,decide_eq_true e,Bool.true_or,Option.isSome_some]
  ·rw [cX e,decide_eq_false e,Bool.false_or]; exact jK k r
theorem sU (k j : κ) (y : V) : ∀ kvs : List (κ × V),valV (kvs.map fun kv=>if kv.1 = k then (kv.1,y) else kv) j = (valV kvs j).map fun x=>if j = k then y else x
 | []=>rfl
 | p :: r=>by
  have ih:=sU k j y r
  rw [List.map_cons]
  by_cases h : p.1 = k
  ·rw [if_pos h]
   by_cases e : p.1 = j
   ·rw [cW (p:=(p.1,y)) e,cW e,Option.map_some,if_pos (e.symm.trans h)]
   ·rw [cX (p:=(p.1,y)) e,cX e,ih]
  ·rw [if_neg h]
   by_cases e : p.1 = j
   ·rw [cW (p:=p) e,cW e,Option.map_some,if_neg (fun z=>h (e.trans z))]
   ·rw [cX (p:=p) e,cX e,ih]
theorem qT (k j : κ) (y : V) : ∀ kvs : List (κ × V),valV kvs k = none→valV (kvs ++ [(k,y)]) j = if j = k then some y else valV kvs j
 | [],_=>by
  by_cases e : k = j
  ·rw [if_pos e.symm]; exact cW (p:=(k,y)) e
  ·rw [if_neg (fun z=>e z.symm)]; exact cX (p:=(k,y)) e
 | p :: r,hn=>by
  rw [List.cons_append]
  have hk : ¬ p.1 = k:=fun z=>by rw [cW z] at hn; cases hn
  rw [cX hk] at hn
  have ih:=qT k j y r hn
  by_cases e : p.1 = j
  ·rw [cW e,cW e,if_neg (fun z=>hk (e.trans z))]
  ·rw [cX e,cX e,ih]
theorem aBv (kvs : List (κ × V)) (k j : κ) (y : V) : valV (putK kvs k y) j = if j = k then some y else valV kvs j:=by
 unfold putK
 by_cases a : (kvs.any fun kv=>decide (kv.1 = k)) = true
 ·rw [if_pos a,sU]
  rw [jK] at a
  by_cases e : j = k
  ·obtain ⟨x,hx⟩:=Option.isSome_iff_exists.mp a
   rw [if_pos e,e,hx,Option.map_some,if_pos rfl]
  ·rw [if_neg e]
   cases valV kvs j with
   | none=>rfl
   | some x=>rw [Option.map_some,if_neg e]
 ·rw [if_neg a]
  refine qT k j y kvs ?_
  rw [jK] at a
  cases q : valV kvs k with
  | none=>rfl
  | some x=>rw [q] at a; exact (a rfl).elim
theorem uY (kvs : List (κ × V)) (k : κ) (v : V) : (putK kvs k v).length ≤ kvs.length + 1:=by
 unfold putK
 split
 ·rw [List.length_map]; lia
 ·rw [List.length_append,List.length_cons,List.length_nil]; lia
theorem RelO.isSome_eq {o : Option V} {u : Option Value} (r : RelO o u) : o.isSome = u.isSome:=by
 cases o with
 | none=>cases u with
  | none=>rfl
  | some _=>exact (show False from r).elim
 | some _=>cases u with
  | none=>exact (show False from r).elim
  | some _=>rfl
theorem KV.val {kvs : List (κ × V)} {vs : List (κ × Value)} (r : KV kvs vs) (k : κ) : RelO (valV kvs k) (valueAt vs k):=by
 unfold KV at r
 induction r with
 | nil=>exact True.intro
 | @cons p q ps qs h t ih =>
  obtain ⟨h1,h2⟩:=h
  by_cases e : p.1 = k
  ·have e' : q.1 = k:=h1.symm.trans e
   have b : valueAt (q :: qs) k = some q.2:=by simp [valueAt,List.find?_cons,e']
   rw [cW e,b]; exact h2
  ·have e' : ¬ q.1 = k:=fun z=>e (h1.trans z)
   have b : valueAt (q :: qs) k = valueAt qs k:=by simp [valueAt,List.find?_cons,e']
   rw [cX e,b]; exact ih
end
theorem aCa {P : Program} {w : World} {k : Key} {u : Value} (r : RelV (kV k) u) : (bU P w).is k u = true:=by
 cases k with
 | inl i=>obtain ⟨t,e⟩:=(show ∃ t,u = Value.int i t from r); subst e; exact uP P w i t
 | inr x=>obtain ⟨t,e⟩:=(show ∃ t,u = Value.str x t from r); subst e; exact uQ P w x t
theorem qU {P : Program} {w : World} : ∀ {ks : List Key} {us : List Value},Vals (ks.map kV) us→ItemsAre (bU P w) ks us
 | [],_,r=>by rw [List.map_nil] at r; cases r; exact .nil
 | k :: ks,_,r=>by
  rw [List.map_cons] at r
  cases r with
  | cons h t=>exact .cons (aCa h) (qU t)
abbrev KT (H : Hp) : List (List Key × V)→List (List Key × Addr × Value)→Prop:=Paired fun p q=>p.1 = q.1∧H q.2.1 = some (.tup (p.1.map kV))∧RelV p.2 q.2.2
theorem KT.val {H : Hp} {kvs : List (List Key × V)} {xs : List (List Key × Addr × Value)} (r : KT H kvs xs) (k : List Key) : RelO (valV kvs k) ((atKey xs k).map (·.2)):=by
 induction r with
 | nil=>exact True.intro
 | @cons p q ps qs h t ih =>
  obtain ⟨h1,_,h2⟩:=h
  by_cases e : p.1 = k
  ·have e' : q.1 = k:=h1.symm.trans e
   have b : atKey (q :: qs) k = some q.2:=by simp [atKey,List.find?_cons,e']
   rw [cW e,b]; exact h2
  ·have e' : ¬ q.1 = k:=fun z=>e (h1.trans z)
   have b : atKey (q :: qs) k = atKey qs k:=by simp [atKey,List.find?_cons,e']
   rw [cX e,b]; exact ih
theorem KT.repl {H : Hp} {kvs : List (List Key × V)} {xs : List (List Key × Addr × Value)} (r : KT H kvs xs) (k : List Key) {y : V} {u : Value} (ry : RelV y u) :
  KT H (kvs.map fun kv=>if kv.1 = k then (kv.1,y) else kv) (xs.map (putAt k u)):=by
 induction r with
 | nil=>exact .nil
 | @cons p q ps qs h t ih =>
  rw [List.map_cons,List.map_cons]
  refine .cons ?_ ih
  obtain ⟨h1,h2,h3⟩:=h
  unfold putAt
  by_cases e : p.1 = k
  ·rw [if_pos e,if_pos (h1.symm.trans e)]; exact ⟨h1,h2,ry⟩
  ·rw [if_neg e,if_neg (fun z=>e (h1.trans z))]; exact ⟨h1,h2,h3⟩
theorem KT.put {H : Hp} {kvs : List (List Key × V)} {xs : List (List Key × Addr × Value)} (r : KT H kvs xs) (k : List Key) {b : Addr} {y : V} {u : Value} (hb : H b = some (.tup (k.map kV))) (ry : RelV y u) :
  KT H (putK kvs k y) (storedH xs k b u):=by
 have e : (kvs.any fun kv=>decide (kv.1 = k)) = (atKey xs k).isSome:=by
  rw [jK,(r.val k).isSome_eq,Option.isSome_map]
 unfold putK storedH
 rw [e]
 by_cases q : (atKey xs k).isSome = true
 ·rw [if_pos q,if_pos q]; exact r.repl k ry
 ·rw [if_neg q,if_neg q]; exact Paired.snoc r ⟨rfl,hb,ry⟩
theorem KT.keeps {H H' : Hp} {kvs : List (List Key × V)} {xs : List (List Key × Addr × Value)} (r : KT H kvs xs) (ht : ∀ b ys,H b = some (.tup ys)→H' b = some (.tup ys)) : KT H' kvs xs :=
 Paired.mapP r fun _ _ z=>⟨z.1,ht _ _ z.2.1,z.2.2⟩
section
variable {P : Program} {w : World} {H : Hp} {h : Heap} {a : Addr}
theorem aCb {u : HO} (ok : HOk P w H h) (e : Rd H a u) : bP P w H h a u:=e.ok ok
theorem aEu {kvs : List (Key × V)} (ok : HOk P w H h) (e : Rd H a (.dK kvs)) : kvs.length ≤ sizeLine∧(a == sysModules) = false∧∃ vs,KV kvs vs∧h.DictOf (bU P w) a vs :=
 show bP P w H h a (.dK kvs) from aCb ok e
theorem iW {ks : List Key} (ok : HOk P w H h) (e : H a = some (.tup (ks.map kV))) : (tupleKind (bU P w)).is h ks a:=by
 obtain ⟨_,its,r,o,h1,h2,n,h3,_⟩:=(show bP P w H h a (.tup (ks.map kV)) from ok a _ e)
 exact ⟨o,its.toArray,n,h1,h2,h3,by simpa using qU r⟩
theorem aEv {kvs : List (List Key × V)} (ok : HOk P w H h) (e : Rd H a (.dT kvs)) : kvs.length ≤ sizeLine∧(a == sysModules) = false ∧
  ∃ xs,KT H kvs xs∧h.DictOfH (tupleKind (bU P w)) a xs:=by
 obtain ⟨z,y,xs,r,o,es,ep,h1,h2,h3,h4,h5⟩:=(show bP P w H h a (.dT kvs) from aCb ok e)
 refine ⟨z,y,xs,r,o,es,ep,h1,h2,h3,h4,fun x hx=>?_,h5⟩
 have all : ∀ {l : List (List Key × V)} {m : List (List Key × Addr × Value)},KT H l m→∀ x∈m,(tupleKind (bU P w)).is h x.1 x.2.1:=by
  intro l m q
  induction q with
  | nil=>intro x hx; exact nomatch hx
  | @cons p q ps qs hq t ih =>
   intro x hx
   rcases List.mem_cons.mp hx with e | hx
   ·subst e
    exact iW ok (by rw [← hq.1]; exact hq.2.1)
   ·exact ih x hx
 exact all r x hx
end
def DGet (H : Hp) (a : Addr) (y : V) (r : Option V) : Prop :=
 (∃ kvs k,Rd H a (.dK kvs)∧y = kV k∧r = valV kvs k)∨∃ kvs k b,Rd H a (.dT kvs)∧y = .ref b∧H b = some (.tup (k.map kV))∧r = valV kvs k
theorem DGet.t {H : Hp} {a b : Addr} {kvs : List (List Key × V)} {k : List Key} (e : H a = some (.dT kvs)) (eb : H b = some (.tup (k.map kV))) : DGet H a (.ref b) (valV kvs k):=.inr ⟨kvs,k,b,.inl e,rfl,eb,rfl⟩
section
variable {X : Cx} {pins : List (Addr × Obj)} {σ : St} {H : Hp} {s : Shared} {a : Addr} {y v : V} {u r : Value} {o : Option V} {A : Around} {E : Value→Shared→Prop}
theorem Inv.big (I : Inv X pins σ H s) : sysModules < s.heap.objs.size:=by
 have h : mainGlobals < s.heap.objs.size:=(I.mod.glob.keeps I.bk).lt
 exact Nat.lt_trans (by decide) h
theorem d_in {Q : Value→Shared→Prop} (hu : A.units + 1 < cLine) (I : Inv X pins σ H s) (g : DGet H a y o) (ry : RelV y u) (h : ∀ s',Inv X pins σ H s'→Q (.bool o.isSome) s') :
  wpAny (model X.prog X.w) A (compareOp .In u (.ref a)) Q E s:=by
 rcases g with ⟨kvs,k,e,ey,l⟩ | ⟨kvs,k,b,e,ey,eb,l⟩
 ·subst ey
  obtain ⟨z,hd,vs,rel,dd⟩:=aEu I.hok e
  refine wpAny_in_of (aCa ry) hd dd.mapOf ?_
  rw [← (rel.val k).isSome_eq,← l]
  exact h _ (I.tok _)
 ·subst ey
  cases (show u = Value.ref b from ry)
  obtain ⟨z,hd,xs,rel,dd⟩:=aEv I.hok e
  refine wpAny_in_heap (tupleKind_room_in1 hu) (iW I.hok eb) hd dd ?_
  have q:=(rel.val k).isSome_eq
  rw [Option.isSome_map] at q
  rw [← q,← l]
  exact h _ (I.tok _)
end
section
variable {X : Cx} {pins : List (Addr × Obj)} {σ : St} {H : Hp} {s : Shared} {a : Addr} {kvs : List (Key × V)} {k : Key} {u : Value} {A : Around} {E : Value→Shared→Prop}
end
def tDIn (ty td : TE) : TE:=fun σ H Q=>ty σ H fun y H1=>td σ H1 fun x H2=>∃ a o,x = .ref a∧DGet H2 a y o∧Q (.bl o.isSome) H2
section
variable {X : Cx} {o i e value : Expr} {pos pos' tpos : Pos} {td ty tv : TE}
theorem aDO (hu : X.A.units + 1 < cLine) (hi : PE X i ty) (ho : PE X o td) : PC X .In i o (tDIn ty td):=by
 intro pins s σ H Q I h
 refine thn (hi pins s σ H _ I h) fun iv s1 ⟨y,H1,I1,ry,q1⟩=>thn (ho pins s1 σ H1 _ I1 q1) fun u s2 ⟨x,H2,I2,rx,a,ov,ex,g,q2⟩=>?_
 subst ex
 obtain rfl : u = Value.ref a:=rx
 exact d_in hu I2 g ry fun s3 I3=>⟨.bl ov.isSome,H2,I3,rfl,q2⟩
end
theorem aBw {P : Program} {w : World} {H : Hp} (h : Heap) (hb : sysModules < h.objs.size) : bP P w H (h.push { cls:=.type "dict",data:=.dict #[] }) h.objs.size (.dK []) :=
 ⟨Nat.zero_le _,beq_eq_false_iff_ne.mpr (Ne.symm (Nat.ne_of_lt hb)),[],.nil,Heap.DictOf.new h⟩
def aAu : TE:=fun _ H Q=>∀ p,H p = none→Q (.ref p) (upd H p (.dK []))
section
variable {X : Cx} {pos : Pos}
theorem aBx : PE X (.Dict [] [] pos) aAu:=fun pins s σ H Q I h =>
 wpAny_Dict_empty ⟨.ref s.heap.objs.size,_,I.laid (a:=s.heap.objs.size) (o:=.dK []) (t':=s.toks) (fun _ _ q=>Heap.get?_push_of_some _ q) (Nat.le_refl _) (aBw s.heap I.big),rfl,h _ (I.hok.fresh (Nat.le_refl _))⟩
end
section
variable {X : Cx} {pins : List (Addr × Obj)} {σ : St} {H : Hp} {s : Shared} {a : Addr} {y d : V} {u r : Value} {o : Option V} {A : Around} {E : Value→Shared→Prop}
end
section
variable {X : Cx} {o e f : Expr} {apos cpos : Pos} {td ty tx : TE}
end
section
variable {X : Cx} {pins : List (Addr × Obj)} {σ : St} {H : Hp} {s : Shared} {a : Addr} {kvs : List (Key × V)} {A : Around} {E : Value→Shared→Prop}
end
section
variable {X : Cx} {pins : List (Addr × Obj)} {σ : St} {H : Hp} {s : Shared} {a : Addr} {y : V} {u : Value} {A : Around} {E : Value→Shared→Prop}
end
end L2
namespace L2
open PySem PySem.Spec PyProof.Rows
section
variable {X : Cx}
end
section
variable {κ : Type} [DecidableEq κ]
end
end L2
namespace L2
open PySem PySem.Spec PyProof.Rows
section
variable {X : Cx}
theorem nV {x : V} : ∀ {xs : List V} {its : List Value},Vals xs its→xs.all cS = true→its.countP (eqU x) = xs.countP (fun z=>eqV z x)
 | [],_,.nil,_=>rfl
 | y :: xs,_,.cons (b:=u) r rr,f=>by
  have fy : cS y = true:=by rw [List.all_cons,Bool.and_eq_true] at f; exact f.1
  have fx : xs.all cS = true:=by rw [List.all_cons,Bool.and_eq_true] at f; exact f.2
  have h1 : [u].any (eqU x) = [y].any (fun z=>eqV z x):=gX (.cons r .nil) (by simp [fy])
  have h2 : eqU x u = eqV y x:=by simpa using h1
  rw [List.countP_cons,List.countP_cons,nV rr fx,h2]
def aAv : V→List V→Hp→VK→Prop:=fun x vs H Q=>∃ (l : Addr) (xs : List V) (y : V),x = .ref l∧vs = [y]∧H l = some (.lst xs)∧cS y = true∧xs.all cS = true∧Q (.int (xs.countP fun z=>eqV z y)) H
theorem aBy : MtM X "list.count" aAv:=by
 intro pins s σ H x vs v us Q I rx rv h
 obtain ⟨l,xs,y,rfl,rfl,hH,fy,fs,q⟩:=h
 cases rx
 obtain ⟨u,rfl,ru⟩:=rv.one
 obtain ⟨z,its,n,r,hl,e⟩:=I.lstM hH
 refine call_meets F.slot_list_count ⟨_,e,rfl⟩ F.entry_list_count (F.args_list_count_2 _ _) (SeqAt.list_countAt l its.toArray n none #[] u (eqU y)) ⟨e,fun w hw=>fT ru fy r fs w (by simpa using hw),?_⟩
 refine ⟨.int _,H,I.tok _,⟨s.toks,?_⟩,q⟩
 rw [show its.toArray.toList = its by simp,nV r fs]
end
end L2
namespace L2
open PySem PySem.Spec PyProof.Rows
end L2
namespace L2
open PySem PySem.Spec PyProof.Rows
section
variable {X : Cx}
end
end L2
namespace L2
open PySem PySem.Spec PyProof.Rows
section
variable {prog : Program} {w : World} {A : Around} {E : Value→Shared→Prop} {s : Shared}
end
end L2
namespace L2
open PySem PySem.Spec PyProof.Rows
end L2
namespace L2
open PySem PySem.Spec PyProof.Rows
section
variable {X : Cx}
end
end L2
namespace L2
open PySem PySem.Spec PyProof.Rows
section
variable {X : Cx} {tg : Expr}
end
end L2
namespace L2
open PySem PySem.Spec PyProof.Rows
theorem sV : typeLookup (.type "list") "keys" = pure none:=by rw [typeLookup_type,builtinLookup_eq_fast]; kernel_rfl
theorem nW : typeLookup (.type "list") "__getattr__" = pure none:=by rw [typeLookup_type,builtinLookup_eq_fast]; kernel_rfl
theorem pF (l : Addr) (u : Tok) (items : Array Value) (n : Nat) :
  Meets (Builtin.«object.__getattribute__» ⟨[.ref l,.str "keys" u],[]⟩) (fun A R s=>s.heap.get? l = some { cls:=.type "list",data:=.seq items n }∧raisesAttr (.ref l) "keys" A R s) :=
 Meets.of_wp fun prog w A R s hs=>by
  obtain ⟨hp,g,d,tk,os⟩:=s
  obtain ⟨hl,hs⟩:=hs
  have hT : (⟨hp,g,d,tk,os⟩ : Shared).TypeIs (.ref l) "list" := ⟨_,hl,rfl⟩
  have f1:=sV
  unfold Builtin.«object.__getattribute__»
  repeat (any_goals (first | assumption | wp_step))
  exact wpAny_raiseAttrError hs.1 hs.2 (attrMsg_fits (by decide +kernel) (by decide +kernel))
theorem aDP {prog : Program} {w : World} {A : Around} {E : Value→Shared→Prop} {s : Shared} {l : Addr} {items : Array Value} {n : Nat} {Q : Option Value→Shared→Prop} (hA : A.handled = none) (hl : s.heap.get? l = some { cls:=.type "list",data:=.seq items n })
  (h : ∀ h' tk,(∀ b o,s.heap.get? b = some o→h'.get? b = some o)→Q none { s with heap:=h',toks:=tk }) : wpAny (model prog w) A (getAttr? (.ref l) "keys") Q E s:=by
 obtain ⟨hp,g,d,tk,os⟩:=s
 have hT : ∀ tk,(⟨hp,g,d,tk,os⟩ : Shared).TypeIs (.ref l) "list" := fun _=>⟨_,hl,rfl⟩
 have f1:=sub_AttributeError
 have f3:=F.slot_list_getattribute.lookup
 have f4:=F.slot_list_getattribute.bind (.ref l)
 have f5:=nW
 unfold getAttr? getAttrBy?
 refine wpAny_bind (wpAny_mkText ?_)
 refine wpAny_bind (wpAny_attempt ?_)
 unfold getAttrBy
 repeat (any_goals (first | assumption | ((with_reducible show wpAny _ _ (call (Value.builtin "list.__getattribute__") _ _) _ _ _); refine call_meets F.slot_list_getattribute (hT _) F.entry_list_ga (F.args_list_getattribute_2 _ _) (pF l _ items n) ⟨hl,hA,fun h' tk' e hx=>?_⟩) | wp_step))
 obtain ⟨t',u',he⟩:=hx.there
 show wpAny _ _ (getattributeRaised _ _ _ _ _ _ _) _ _ _
 unfold getattributeRaised
 repeat (any_goals (first | assumption | wp_step))
 exact h _ _ hx.keeps
end L2
namespace L2
open PySem PySem.Spec PyProof.Rows
theorem mF : entryFor table "dict.update.loop" = some Builtin.«dict.update.loop»:=entryFor_of_tree (by kernel_rfl)
theorem fX : plainId "dict.update.loop" = true:=by decide +kernel
section
variable {prog : Program} {w : World} {A : Around} {E : Value→Shared→Prop} {s : Shared} {R : Result→Shared→Prop} {l d Ia : Addr}
end
end L2
namespace L2
open PySem PySem.Spec PyProof.Rows
section
variable {prog : Program} {w : World} {A : Around} {E : Value→Shared→Prop} {s : Shared} {l : Addr}
end
end L2
namespace L2
open PySem PySem.Spec PyProof.Rows
section
variable {X : Cx}
end
end L2
namespace L2
open PySem PySem.Spec PyProof.Rows
section
variable {X : Cx}
theorem aAw (hc : X.calm = true) : cI X (.builtin "all") (fun xs H Q=>∃ (p : Addr) (bs : List Bool),xs = [.ref p]∧SqL X.K H p (bs.map V.bl)∧Q (.bl (bs.all id)) H):=by
 intro pins s σ H xs us Q I r h
 obtain ⟨p,bs,rfl,hp,q⟩:=h
 obtain ⟨u1,rfl,r1⟩:=r.one
 obtain rfl : u1 = Value.ref p:=r1
 obtain ⟨its,rv,pl,hz⟩:=I.list hp
 have hits : its = bs.map Value.bool:=by
  have go : ∀ (bs : List Bool) (its : List Value),Vals (bs.map V.bl) its→its = bs.map Value.bool:=by
   intro bs
   induction bs with
   | nil=>intro its r; cases r; rfl
   | cons b bs ih =>
    intro its r
    cases r with
    | cons r rr =>
     obtain rfl:=(show _ = Value.bool b from r)
     rw [ih _ rr]; rfl
  exact go bs its rv
 subst hits
 obtain ⟨ob,hob,_⟩:=id pl.isList
 have hlt : p < s.heap.objs.size:=Heap.lt_size hob
 refine call_all_walk (wpAny_pyIter_list pl.isList ⟨s.heap.objs.size,_,_,_,_,_,fun i=>bs.getD i true,rfl,Walks.list (show X.A.in1.handled = none from I.ok.hd hc) _ p (Nat.ne_of_lt hlt) _,⟨⟨_,Heap.get?_push_size _ rfl,rfl,rfl⟩,pl.isList.push _⟩,fun i v s1 Q' E' hv hq=>?_,fun h' tk k=>?_⟩)
 ·have hv' : (bs.map Value.bool)[i]? = some v:=by simpa using hv
  rw [List.getElem?_map] at hv'
  cases eb : bs[i]? with
  | none=>rw [eb] at hv'; cases hv'
  | some b =>
   rw [eb] at hv'
   obtain rfl : Value.bool b = v:=Option.some.inj hv'
   have : bs.getD i true = b:=by rw [List.getD_eq_getElem?_getD,eb]; rfl
   have hq' : Q' b s1:=by rw [← this]; exact hq
   exact wpAny_pure hq'
 ·have keep : ∀ b o,s.heap.get? b = some o→h'.get? b = some o:=fun b o e=>k b o (by simpa using Nat.ne_of_lt (Heap.lt_size e)) (Heap.get?_push_of_some _ e)
  refine ⟨.bl (bs.all id),H,I.kept (t':=tk) keep,?_,q⟩
  show Value.bool _ = Value.bool _
  congr 1
  have go : ∀ (bs : List Bool),((List.range bs.length).all fun i=>bs.getD i true) = bs.all id:=by
   intro bs
   induction bs with
   | nil=>rfl
   | cons b bs ih =>
    rw [List.length_cons,List.range_succ_eq_map,List.all_cons,List.all_map,List.all_cons,← ih]
    rfl
  rw [← go bs]
  simp
end
end L2
namespace L2
open PySem PySem.Spec PyProof.Rows
structure Cal (P : Program) (w : World) (K : PySem.W.Frag) (mg : Str→Option Value) (base : Heap) (CX : CXT) (k : Nat) (x : Str) (ps : List Str) (sp : Sp) : Prop where
 ex : ∃ f fd,mg x = some (.ref f)∧PySem.W.keepIn K (.ref f) = true∧fG K fd ps []∧FnOk P w K mg base CX k f fd ps sp
theorem aO {X : Cx} {CX : CXT} {k : Nat} {x : Str} {ps : List Str} {sp : Sp} {E : XK} {e : Expr} {es : List Expr} {t : TA} {p pos : Pos} (C : Cal X.prog X.w X.K X.mg X.base CX k x ps sp) (hr : Room k X.A) (hx : hV CX X E) (ha : PA X (e :: es) t) (hg : Gl X x:=by rfl)
  (hdb : (x == ("__debug__" : Str)) = false:=by decide) (he : starEach (e :: es) X.env = (false,eval e X.env) :: starEach es X.env:=by rfl) (hpl : (backTo pos (starEach es X.env)).any (·.1) = false:=by rfl) :
  PE X (.Call (.Name x p) (e :: es) [] pos) (lE sp [] E t):=by
 obtain ⟨f,fd,a,b,c,d⟩:=C.ex
 exact aCt d hr hg a b c .nil hx ha hdb he hpl
theorem aF {H : Hp} {D : Addr} {o : HO} (h : H D = none) : Same H (upd H D o):=fun b u e=>by rw [aH (aJ e h)]; exact e
def aK (p : Addr) (H H' : Hp) : Prop:=∀ b o,H b = some o→b ≠ p→H' b = some o
theorem aK.refl {p : Addr} {H : Hp} : aK p H H:=fun _ _ h _=>h
theorem aK.trans {p : Addr} {H H1 H2 : Hp} (a : aK p H H1) (b : aK p H1 H2) : aK p H H2:=fun c o h n=>b c o (a c o h n) n
theorem aK.upd {p : Addr} {H : Hp} {o : HO} : aK p H (upd H p o):=fun b u h n=>by rw [aH n]; exact h
theorem aK.of {p : Addr} {H H' : Hp} (s : Same H H') : aK p H H':=fun b o h _=>s b o h
theorem aK.free {p q : Addr} {H H' : Hp} (s : aK p H H') (hp : H' p ≠ none) (h : H' q = none) : H q = none:=by
 cases z : H q with
 | none=>rfl
 | some o =>
  by_cases e : q = p
  ·subst e; exact absurd h hp
  ·rw [s q o z e] at h; cases h
theorem eO {n j : Nat} (h : j < n) : ixN n (j : Int) = some j:=by
 unfold ixN
 rw [if_pos (by lia),if_pos (by lia)]
 simp
theorem aAx {as : List Addr} {t : Addr} {j n : Nat} (h : as.length = n) : (as ++ [t]).getD j 0 = if j = n then t else as.getD j 0:=by
 rw [List.getD_eq_getElem?_getD,List.getD_eq_getElem?_getD]
 by_cases hj : j = n
 ·subst hj; subst h
  rw [if_pos rfl,List.getElem?_append_right (Nat.le_refl _),Nat.sub_self]; rfl
 ·rw [if_neg hj]
  by_cases hlt : j < as.length
  ·rw [List.getElem?_append_left hlt]
  ·rw [List.getElem?_append_right (by lia),List.getElem?_eq_none (by simp; lia),List.getElem?_eq_none (by lia)]
def Holds (H : Hp) (as : List Addr) (n : Nat) (o : Nat→HO) : Prop:=as.length = n∧∀ j,j < n→H (as.getD j 0) = some (o j)
theorem Holds.nil {H : Hp} {o : Nat→HO} : Holds H [] 0 o:=⟨rfl,fun j hj=>absurd hj (by lia)⟩
theorem Holds.snoc {H : Hp} {as : List Addr} {n : Nat} {o : Nat→HO} {t : Addr} (h : Holds H as n o) (ht : H t = some (o n)) : Holds H (as ++ [t]) (n + 1) o:=by
 refine ⟨by rw [List.length_append,h.1]; rfl,fun j hj=>?_⟩
 rw [aAx h.1]
 by_cases e : j = n
 ·rw [if_pos e,e]; exact ht
 ·rw [if_neg e]; exact h.2 j (by lia)
theorem Holds.mono {H H' : Hp} {as : List Addr} {n : Nat} {o : Nat→HO} (h : Holds H as n o) (e : ∀ j,j < n→H (as.getD j 0) = some (o j)→H' (as.getD j 0) = some (o j)) : Holds H' as n o:=⟨h.1,fun j hj=>e j hj (h.2 j hj)⟩
end L2
namespace PyProof.Rows
open PySem
def dA : Bool→Keyed→Array Keyed→Nat→Nat→Nat→StateT SortSt Sem (Option Nat):=sortPriv% PySem.Builtin.gallop
def mN : Array Keyed→Array Keyed→StateT SortSt Sem (Array Keyed):=sortPriv% PySem.Builtin.mergeLo
def mP : Array Keyed→Array Keyed→StateT SortSt Sem (Array Keyed):=sortPriv% PySem.Builtin.mergeHi
def cR : Nat→StateT SortSt Sem Unit:=sortPriv% PySem.Builtin.setMinGallop
def Cmp (prog : Program) (w : World) (A : Around) (s : Shared) (κ : SortKind) (a₀ : Array Keyed) (key : Keyed→Int) : Prop :=
 ∀ x y,x∈a₀.toList→y∈a₀.toList→∀ (Q : Bool→Shared→Prop) (E : Value→Shared→Prop),Q (decide (key x < key y)) s→wpAny (model prog w) A (keyLt' κ x.1 y.1) Q E s
structure SQ (κ : SortKind) (a₀ : Array Keyed) (pd : Array (Nat × Nat × Nat)) (st : SortSt) : Prop where
 perm : (arrOf st).Perm a₀
 kind : kindOf st = κ
 failed : failedOf st = none
 pend : pendingOf st = pd
def kk (key : Keyed→Int) (a : Array Keyed) (i : Nat) : Int:=(a[i]?.map key).getD 0
def So (key : Keyed→Int) (a : Array Keyed) (lo hi : Nat) : Prop:=∀ i j,lo ≤ i→i ≤ j→j < hi→kk key a i ≤ kk key a j
def Out (a b : Array Keyed) (lo hi : Nat) : Prop:=∀ k,k < lo∨hi ≤ k→b[k]? = a[k]?
theorem Out.refl {a : Array Keyed} {lo hi : Nat} : Out a a lo hi:=fun _ _=>rfl
theorem Out.trans {a b c : Array Keyed} {lo hi : Nat} (x : Out a b lo hi) (y : Out b c lo hi) : Out a c lo hi:=fun k h=>(y k h).trans (x k h)
theorem Out.wide {a b : Array Keyed} {lo hi lo' hi' : Nat} (x : Out a b lo hi) (h1 : lo' ≤ lo) (h2 : hi ≤ hi') : Out a b lo' hi':=fun k h=>x k (by lia)
theorem bX {key : Keyed→Int} {a : Array Keyed} {i : Nat} (h : i < a.size) : kk key a i = key a[i]:=by unfold kk; rw [getElem?_pos a i h]; rfl
theorem eF {key : Keyed→Int} {a b : Array Keyed} {i j : Nat} (h : a[i]? = b[j]?) : kk key a i = kk key b j:=by unfold kk; rw [h]
section
variable {prog : Program} {w : World} {A : Around} {E : Value→Shared→Prop} {s : Shared} {κ : SortKind} {a₀ : Array Keyed} {pd : Array (Nat × Nat × Nat)} {key : Keyed→Int}
theorem SQ.size {st : SortSt} (h : SQ κ a₀ pd st) : (arrOf st).size = a₀.size:=h.perm.size_eq
theorem SQ.setArr {st : SortSt} (h : SQ κ a₀ pd st) {xs : Array Keyed} (hp : xs.Perm (arrOf st)) : SQ κ a₀ pd (setArr st xs):=⟨hp.trans h.perm,h.kind,h.failed,h.pend⟩
theorem SQ.at {st : SortSt} (h : SQ κ a₀ pd st) {i : Nat} (hi : i < a₀.size) : ∃ p,(arrOf st)[i]? = some p∧p∈a₀.toList:=by
 have hi' : i < (arrOf st).size:=by rw [h.size]; exact hi
 exact ⟨(arrOf st)[i],getElem?_pos _ i hi',(Array.perm_iff_toList_perm.mp h.perm).mem_iff.mp (by simp)⟩
theorem kM {st : SortSt} {x y : Keyed} {Q : Option Bool→SortSt→Prop} (hC : Cmp prog w A s κ a₀ key) (hk : kindOf st = κ) (hx : x∈a₀.toList) (hy : y∈a₀.toList) (h : Q (some (decide (key x < key y))) st) : wpS (model prog w) A E s (lt' x y) Q st:=by
 rw [lt'_eq]
 refine wpS_bind (wpS_get ?_)
 rw [hk]
 refine wpS_bind (wpS_lift (wpAny_attempt (hC x y hx hy _ _ ⟨rfl,?_⟩)))
 exact wpS_pure h
theorem bN {st : SortSt} {arr : Array Keyed} {i : Nat} {p : Keyed} {Q : Keyed→SortSt→Prop} (hi : arr[i]? = some p) (h : Q p st) : wpS (model prog w) A E s (elem' arr i) Q st:=by
 rw [elem'_eq,hi]
 exact wpS_pure h
theorem iX {st : SortSt} {i j : Nat} {Q : Option Bool→SortSt→Prop} (hC : Cmp prog w A s κ a₀ key) (hB : SQ κ a₀ pd st) (hi : i < a₀.size) (hj : j < a₀.size) (h : ∀ b,b = decide (kk key (arrOf st) i < kk key (arrOf st) j)→Q (some b) st) : wpS (model prog w) A E s (ltAt' i j) Q st:=by
 obtain ⟨p,e1,m1⟩:=hB.at hi
 obtain ⟨q,e2,m2⟩:=hB.at hj
 rw [ltAt'_eq]
 refine wpS_bind (wpS_get ?_)
 refine wpS_bind (bN e1 (wpS_bind (bN e2 (kM hC hB.kind m1 m2 (h _ ?_)))))
 unfold kk
 rw [e1,e2]; rfl
theorem lJ {st : SortSt} {i j : Nat} {Q : Unit→SortSt→Prop} (hB : SQ κ a₀ pd st) (hj : j ≤ a₀.size) (h : ∀ st',SQ κ a₀ pd st'→(∀ k,(arrOf st')[k]? = if i ≤ k∧k < j then (arrOf st)[i + j - 1 - k]? else (arrOf st)[k]?)→Q () st') : wpS (model prog w) A E s (reverseSlice' i j) Q st:=by
 rw [reverseSlice'_eq]
 exact wpS_modify (h _ (hB.setArr (mirror_perm _ _ _ _)) (getElem?_mirror_all (by rw [hB.size]; exact hj)))
theorem aBz {st : SortSt} {i j : Nat} {Q : Unit→SortSt→Prop} (hB : SQ κ a₀ pd st) (hi : i < a₀.size) (hj : j ≤ i) (h : ∀ st',SQ κ a₀ pd st'→(∀ k,(arrOf st')[k]? = if k = j then (arrOf st)[i]? else if j < k∧k ≤ i then (arrOf st)[k - 1]? else (arrOf st)[k]?)→Q () st') : wpS (model prog w) A E s (moveDown' i j) Q st:=by
 rw [moveDown'_eq]
 refine wpS_modify (h _ (hB.setArr (bubble_perm _ _ _)) fun k=>?_)
 have:=getElem?_bubble (xs:=arrOf st) (src:=i) (by rw [hB.size]; exact hi) (i - j) (by lia) k
 rw [show i - (i - j) = j by lia] at this
 exact this
theorem aCH {st : SortSt} {lo n ok : Nat} {Q : Bool → SortSt → Prop} (hC : Cmp prog w A s κ a₀ key) (hn : lo + n ≤ a₀.size) (hok : ok ≤ n) (hB : SQ κ a₀ pd st) (hs : So key (arrOf st) lo (lo + ok)) (h : ∀ st', SQ κ a₀ pd st' → So key (arrOf st') lo (lo + n) → Out (arrOf st) (arrOf st') lo (lo + n) → Q true st') : wpS (model prog w) A E s (binarySort' lo n ok) Q st := by
  rw [binarySort'_eq]
  refine wpS_bind (wpS_mono (wpS_forRange (I := fun k c st' => c = (none, ()) ∧ SQ κ a₀ pd st' ∧ So key (arrOf st') lo (lo + k) ∧ Out (arrOf st) (arrOf st') lo (lo + n)) (Q := fun c st' => c = (none, ()) ∧ SQ κ a₀ pd st' ∧ So key (arrOf st') lo (lo + n) ∧ Out (arrOf st) (arrOf st') lo (lo + n)) ?_ (fun c st' hh => ⟨hh.1, hh.2.1, fun i j h1 h2 h3 => hh.2.2.1 i j h1 h2 (by lia), hh.2.2.2⟩) ⟨rfl, hB, fun i j h1 h2 h3 => ?_, Out.refl⟩) ?_)
  · rintro k c st' hk1 hk2 ⟨rfl, hB', so, ou⟩
    dsimp only
    refine wpS_bind (wpS_mono (wpS_forRange (I := fun x c st'' => (∃ l r, c = (none, l, r) ∧ l ≤ r ∧ r ≤ k ∧ r ≤ l + (k - x) ∧ (∀ i, i < l → kk key (arrOf st') (lo + i) ≤ kk key (arrOf st') (lo + k)) ∧ (∀ i, r ≤ i → i < k → kk key (arrOf st') (lo + k) ≤ kk key (arrOf st') (lo + i))) ∧ st'' = st') (Q := fun c st'' => (∃ l r, c = (none, l, r) ∧ l ≤ k ∧ (∀ i, i < l → kk key (arrOf st') (lo + i) ≤ kk key (arrOf st') (lo + k)) ∧ (∀ i, l ≤ i → i < k → kk key (arrOf st') (lo + k) ≤ kk key (arrOf st') (lo + i))) ∧ st'' = st') ?_ ?_ ⟨⟨_, _, rfl, Nat.zero_le _, Nat.le_refl _, by lia, fun i h => by lia, fun i h h' => by lia⟩, rfl⟩) ?_)
    · rintro x c st2 _ hx ⟨⟨l, r, rfl, hlr', hr, hrl, f1, f2⟩, rfl⟩
      dsimp only
      by_cases hlr : l ≥ r
      · rw [if_pos hlr]
        exact wpS_pure ⟨⟨_, _, rfl, by lia, f1, fun i hi hi' => f2 i (by lia) hi'⟩, rfl⟩
      · rw [if_neg hlr]
        refine wpS_bind (iX hC hB' (by lia) (by lia) fun b eb => ?_)
        cases b
        · have e := of_decide_eq_false eb.symm
          refine wpS_pure ⟨⟨_, _, rfl, by lia, hr, by lia, fun i hi => ?_, f2⟩, rfl⟩
          have := so (lo + i) (lo + (l + r) / 2) (by lia) (by lia) (by lia)
          lia
        · have e := of_decide_eq_true eb.symm
          refine wpS_pure ⟨⟨_, _, rfl, by lia, by lia, by lia, f1, fun i hi hi' => ?_⟩, rfl⟩
          have := so (lo + (l + r) / 2) (lo + i) (by lia) (by lia) (by lia)
          lia
    · rintro c st2 ⟨⟨l, r, rfl, hlr', hr, hrl, f1, f2⟩, rfl⟩
      exact ⟨⟨_, _, rfl, by lia, f1, fun i hi hi' => f2 i (by lia) hi'⟩, rfl⟩
    · rintro c st2 ⟨⟨l, r, rfl, hl, f1, f2⟩, rfl⟩
      dsimp only
      refine wpS_bind (aBz hB' (by lia) (by lia) fun st3 hB3 hg => wpS_pure ⟨rfl, hB3, fun i j h1 h2 h3 => ?_, fun q hq => ?_⟩)
      · have gi := hg i
        have gj := hg j
        have ei : kk key (arrOf st3) i = if i = lo + l then kk key (arrOf st2) (lo + k) else if lo + l < i ∧ i ≤ lo + k then kk key (arrOf st2) (i - 1) else kk key (arrOf st2) i := by
          unfold kk; rw [gi]; split
          · rfl
          · split <;> rfl
        have ej : kk key (arrOf st3) j = if j = lo + l then kk key (arrOf st2) (lo + k) else if lo + l < j ∧ j ≤ lo + k then kk key (arrOf st2) (j - 1) else kk key (arrOf st2) j := by
          unfold kk; rw [gj]; split
          · rfl
          · split <;> rfl
        rw [ei, ej]
        by_cases c1 : i = lo + l
        · rw [if_pos c1]
          by_cases c2 : j = lo + l
          · rw [if_pos c2]; lia
          · rw [if_neg c2, if_pos (by lia)]
            have := f2 (j - 1 - lo) (by lia) (by lia)
            rw [show lo + (j - 1 - lo) = j - 1 by lia] at this
            exact this
        · rw [if_neg c1]
          by_cases c3 : lo + l < i ∧ i ≤ lo + k
          · rw [if_pos c3, if_neg (by lia), if_pos (by lia)]
            exact so _ _ (by lia) (by lia) (by lia)
          · rw [if_neg c3]
            by_cases c2 : j = lo + l
            · rw [if_pos c2]
              have := f1 (i - lo) (by lia)
              rw [show lo + (i - lo) = i by lia] at this
              exact this
            · rw [if_neg c2]
              by_cases c4 : lo + l < j ∧ j ≤ lo + k
              · rw [if_pos c4]; exact so _ _ (by lia) (by lia) (by lia)
              · rw [if_neg c4]; exact so _ _ (by lia) (by lia) (by lia)
      · rw [hg q, if_neg (by lia), if_neg (by lia)]
        exact ou q hq
  · by_cases ho : ok = 0
    · have : i = j := by subst ho; have : max 0 1 = 1 := rfl; lia
      rw [this]; exact Int.le_refl _
    · exact hs i j h1 h2 (by have : max ok 1 = ok := by lia
                             lia)
  · rintro c st' ⟨rfl, hB', so, ou⟩
    exact wpS_pure (h st' hB' so ou)
end
end PyProof.Rows
namespace PyProof.Rows
open PySem
def finC (lo nrem n : Nat) : StateT SortSt Sem (Option Nat):=do
 reverseSlice' lo (lo + n)
 let mut n:=n
 for _ in [n:nrem] do
  let some smaller ← ltAt' (lo + n) (lo + n - 1) | return none
  if smaller then break
  n:=n + 1
 return some n
def desC (lo nrem n : Nat) : StateT SortSt Sem (Option Nat):=do
 rule "list.sort.descending-run"
 let mut n:=n + 1
 let mut neq:=0
 for _ in [n:nrem] do
  let some smaller ← ltAt' (lo + n) (lo + n - 1) | return none
  if smaller then
   if neq > 0 then reverseSlice' (lo + n - (neq + 1)) (lo + n)
   neq:=0
  else
   let some larger ← ltAt' (lo + n - 1) (lo + n) | return none
   if larger then break
   neq:=neq + 1
  n:=n + 1
 if neq > 0 then reverseSlice' (lo + n - (neq + 1)) (lo + n)
 finC lo nrem n
theorem rD (lo nrem : Nat) : countRun' lo nrem = (do
 let mut n:=1
 for _ in [1:nrem] do
  let some smaller ← ltAt' (lo + n) (lo + n - 1) | return none
  if smaller then break
  n:=n + 1
 if n == nrem then return some n
 if n > 1 then
  let some rose ← ltAt' lo (lo + n - 1) | return none
  if rose then return some n
  reverseSlice' lo (lo + n)
 desC lo nrem n):=rfl
section
variable {prog : Program} {w : World} {A : Around} {E : Value→Shared→Prop} {s : Shared} {κ : SortKind} {a₀ : Array Keyed} {pd : Array (Nat × Nat × Nat)} {key : Keyed→Int} {ar : Array Keyed}
def De (key : Keyed→Int) (a : Array Keyed) (lo hi : Nat) : Prop:=∀ i j,lo ≤ i→i ≤ j→j < hi→kk key a j ≤ kk key a i
theorem sW {a b : Array Keyed} {i j : Nat} (h : ∀ k,b[k]? = if i ≤ k∧k < j then a[i + j - 1 - k]? else a[k]?) (k : Nat) : kk key b k = if i ≤ k∧k < j then kk key a (i + j - 1 - k) else kk key a k:=by
 unfold kk; rw [h k]; split <;> rfl
theorem kN {a b : Array Keyed} {i j : Nat} (h : ∀ k,b[k]? = if i ≤ k∧k < j then a[i + j - 1 - k]? else a[k]?) (e : ∀ k,i ≤ k→k < j→kk key a k = kk key a (j - 1)) (k : Nat) : kk key b k = kk key a k:=by
 rw [sW h]
 split
 ·rename_i c; rw [e _ (by lia) (by lia),e k c.1 c.2]
 ·rfl
theorem lK {a b : Array Keyed} {i j lo hi : Nat} (h : ∀ k,b[k]? = if i ≤ k∧k < j then a[i + j - 1 - k]? else a[k]?) (h1 : lo ≤ i) (h2 : j ≤ hi) : Out a b lo hi:=fun k hk=>by rw [h k,if_neg (by lia)]
theorem wB {st : SortSt} {lo nrem n : Nat} {Q : Option (Option Nat) × Nat→SortSt→Prop} (hC : Cmp prog w A s κ a₀ key) (hn : lo + nrem ≤ a₀.size) (h1 : 1 ≤ n) (h2 : n ≤ nrem) (hB : SQ κ a₀ pd st) (so : So key (arrOf st) lo (lo + n)) (h : ∀ m,n ≤ m→m ≤ nrem→So key (arrOf st) lo (lo + m)→(m = nrem∨kk key (arrOf st) (lo + m) < kk key (arrOf st) (lo + m - 1))→Q (none,m) st) :
  wpS (model prog w) A E s (forIn [n:nrem] ((none : Option (Option Nat)),n) fun _ r=>do
   let some smaller ← ltAt' (lo + r.2) (lo + r.2 - 1) | pure (ForInStep.done (some none,r.2))
   if smaller then pure (ForInStep.done (none,r.2)) else pure (ForInStep.yield (none,r.2 + 1))) Q st:=by
 refine wpS_mono (wpS_forRange (I:=fun i c st'=>st' = st∧c = (none,i)∧So key (arrOf st) lo (lo + i)) (Q:=fun c st'=>st' = st∧∃ m,c = (none,m)∧n ≤ m∧m ≤ nrem∧So key (arrOf st) lo (lo + m)∧(m = nrem∨kk key (arrOf st) (lo + m) < kk key (arrOf st) (lo + m - 1))) ?_ ?_ ⟨rfl,rfl,so⟩) ?_
 ·rintro i c st1 hi1 hi2 ⟨rfl,rfl,so1⟩
  dsimp only
  refine wpS_bind (iX hC hB (by lia) (by lia) fun b eb=>?_)
  cases b
  ·have e:=of_decide_eq_false eb.symm
   refine wpS_pure ⟨rfl,rfl,fun x y hx hxy hy=>?_⟩
   by_cases c1 : y < lo + i
   ·exact so1 x y hx hxy c1
   ·have : y = lo + i:=by lia
    subst this
    by_cases c2 : x = lo + i
    ·rw [c2]; lia
    ·have:=so1 x (lo + i - 1) hx (by lia) (by lia)
     lia
  ·exact wpS_pure ⟨rfl,_,rfl,by lia,by lia,so1,.inr (of_decide_eq_true eb.symm)⟩
 ·rintro c st1 ⟨rfl,rfl,so1⟩
  have : max n nrem = nrem:=by lia
  rw [this] at so1 ⊢
  exact ⟨rfl,_,rfl,by lia,by lia,so1,.inl rfl⟩
 ·rintro c st1 ⟨rfl,m,rfl,m1,m2,so1,e⟩
  exact h m m1 m2 so1 e
theorem wC {st : SortSt} {lo nrem n : Nat} {Q : Option Nat→SortSt→Prop} (hC : Cmp prog w A s κ a₀ key) (hn : lo + nrem ≤ a₀.size) (h1 : 1 ≤ n) (h2 : n ≤ nrem) (hB : SQ κ a₀ pd st) (de : De key (arrOf st) lo (lo + n)) (ou : Out ar (arrOf st) lo (lo + nrem)) (h : ∀ n st',SQ κ a₀ pd st'→1 ≤ n→n ≤ nrem→So key (arrOf st') lo (lo + n)→Out ar (arrOf st') lo (lo + nrem)→Q (some n) st') : wpS (model prog w) A E s (finC lo nrem n) Q st:=by
 unfold finC
 refine wpS_bind (lJ hB (by lia) fun st2 hB2 hg=>?_)
 refine wpS_bind (wB hC hn h1 h2 hB2 (fun i j hi hij hj=>?_) fun m m1 m2 so _=>?_)
 ·rw [sW hg,sW hg,if_pos (by lia),if_pos (by lia)]
  exact de _ _ (by lia) (by lia) (by lia)
 ·exact wpS_pure (h m st2 hB2 (by lia) m2 so (ou.trans (lK hg (by lia) (by lia))))
theorem wD {st : SortSt} {lo nrem n : Nat} {Q : Option Nat→SortSt→Prop} (hC : Cmp prog w A s κ a₀ key) (hn : lo + nrem ≤ a₀.size) (h1 : 1 ≤ n) (h2 : n < nrem) (hB : SQ κ a₀ pd st) (de : De key (arrOf st) lo (lo + (n + 1))) (ou : Out ar (arrOf st) lo (lo + nrem)) (h : ∀ n st',SQ κ a₀ pd st'→1 ≤ n→n ≤ nrem→So key (arrOf st') lo (lo + n)→Out ar (arrOf st') lo (lo + nrem)→Q (some n) st') : wpS (model prog w) A E s (desC lo nrem n) Q st:=by
 unfold desC
 refine wpS_bind (wpS_lift (wpAny_rule ⟨rfl,?_⟩))
 dsimp only
 refine wpS_bind (wpS_mono (wpS_forRange (I:=fun i c st'=>SQ κ a₀ pd st'∧De key (arrOf st') lo (lo + i)∧Out ar (arrOf st') lo (lo + nrem)∧∃ q,c = (none,i,q)∧q + 1 ≤ i∧∀ k,lo + i - (q + 1) ≤ k→k < lo + i→kk key (arrOf st') k = kk key (arrOf st') (lo + i - 1)) (Q:=fun c st'=>SQ κ a₀ pd st'∧Out ar (arrOf st') lo (lo + nrem)∧∃ i q,c = (none,i,q)∧De key (arrOf st') lo (lo + i)∧1 ≤ i∧i ≤ nrem∧q + 1 ≤ i∧∀ k,lo + i - (q + 1) ≤ k→k < lo + i→kk key (arrOf st') k = kk key (arrOf st') (lo + i - 1)) ?_ ?_ ⟨hB,de,ou,_,rfl,by lia,fun k hk1 hk2=>by rw [show k = lo + (n + 1) - 1 by lia]⟩) ?_)
 ·rintro i c st3 hi1 hi2 ⟨hB3,de3,ou3,q,rfl,hq,eq⟩
  dsimp only
  have step : ∀ st',(∀ k,kk key (arrOf st') k = kk key (arrOf st3) k)→kk key (arrOf st3) (lo + i) ≤ kk key (arrOf st3) (lo + i - 1)→De key (arrOf st') lo (lo + (i + 1)):=by
   intro st' e hlt x y hx hxy hy
   rw [e,e]
   by_cases c1 : y < lo + i
   ·exact de3 x y hx hxy c1
   ·have : y = lo + i:=by lia
    subst this
    by_cases c2 : x = lo + i
    ·rw [c2]; lia
    ·have:=de3 x (lo + i - 1) hx (by lia) (by lia)
     lia
  refine wpS_bind (iX hC hB3 (by lia) (by lia) fun b3 e3=>?_)
  cases b3
  ·have e3':=of_decide_eq_false e3.symm
   dsimp only
   rw [if_neg (by decide)]
   refine wpS_bind (iX hC hB3 (by lia) (by lia) fun b4 e4=>?_)
   cases b4
   ·have e4':=of_decide_eq_false e4.symm
    refine wpS_pure ⟨hB3,step st3 (fun _=>rfl) (by lia),ou3,_,rfl,by lia,fun k hk1 hk2=>?_⟩
    rw [show lo + (i + 1) - 1 = lo + i by lia]
    by_cases c1 : k = lo + i
    ·rw [c1]
    ·have:=eq k (by lia) (by lia)
     lia
   ·exact wpS_pure ⟨hB3,ou3,_,_,rfl,de3,by lia,by lia,hq,eq⟩
  ·have e3':=of_decide_eq_true e3.symm
   dsimp only
   rw [if_pos rfl]
   split
   ·refine wpS_bind (lJ hB3 (by lia) fun st4 hB4 hg=>wpS_pure ⟨hB4,step st4 (kN hg eq) (by lia),ou3.trans (lK hg (by lia) (by lia)),_,rfl,by lia,fun k hk1 hk2=>by rw [show k = lo + (i + 1) - 1 by lia]⟩)
   ·exact wpS_pure ⟨hB3,step st3 (fun _=>rfl) (by lia),ou3,_,rfl,by lia,fun k hk1 hk2=>by rw [show k = lo + (i + 1) - 1 by lia]⟩
 ·rintro c st3 ⟨hB3,de3,ou3,q,rfl,hq,eq⟩
  have : max (n + 1) nrem = nrem:=by lia
  rw [this] at de3 hq eq ⊢
  exact ⟨hB3,ou3,_,_,rfl,de3,by lia,by lia,hq,eq⟩
 ·rintro c st3 ⟨hB3,ou3,i,q,rfl,de3,i1,i2,hq,eq⟩
  dsimp only
  split
  ·refine wpS_bind (lJ hB3 (by lia) fun st4 hB4 hg=>?_)
   refine wC hC hn i1 i2 hB4 (fun x y hx hxy hy=>?_) (ou3.trans (lK hg (by lia) (by lia))) h
   rw [kN hg eq,kN hg eq]
   exact de3 x y hx hxy hy
  ·exact wC hC hn i1 i2 hB3 de3 ou3 h
theorem aAy {st : SortSt} {lo nrem : Nat} {Q : Option Nat→SortSt→Prop} (hC : Cmp prog w A s κ a₀ key) (hn : lo + nrem ≤ a₀.size) (h1 : 1 ≤ nrem) (hB : SQ κ a₀ pd st) (h : ∀ n st',SQ κ a₀ pd st'→1 ≤ n→n ≤ nrem→So key (arrOf st') lo (lo + n)→Out (arrOf st) (arrOf st') lo (lo + nrem)→Q (some n) st') : wpS (model prog w) A E s (countRun' lo nrem) Q st:=by
 rw [rD]
 refine wpS_bind (wB hC hn (Nat.le_refl 1) h1 hB (fun i j hi hij hj=>by rw [show i = j by lia]; exact Int.le_refl _) fun n n1 n2 so e=>?_)
 dsimp only
 by_cases e1 : (n == nrem) = true
 ·rw [if_pos e1]; exact wpS_pure (h n st hB n1 n2 so Out.refl)
 rw [if_neg e1]
 have g1 : ¬ (n = nrem):=by simpa using e1
 have hlt : kk key (arrOf st) (lo + n) < kk key (arrOf st) (lo + n - 1):=e.resolve_left g1
 by_cases e2 : n > 1
 ·rw [if_pos e2]
  refine wpS_bind (iX hC hB (by lia) (by lia) fun b2 eb=>?_)
  cases b2
  ·have e3:=of_decide_eq_false eb.symm
   dsimp only
   rw [if_neg (by decide)]
   have eq : ∀ k,lo ≤ k→k < lo + n→kk key (arrOf st) k = kk key (arrOf st) (lo + n - 1):=fun k hk1 hk2=>by
    have a1:=so lo k (by lia) hk1 hk2
    have a2:=so k (lo + n - 1) hk1 (by lia) (by lia)
    lia
   refine wpS_bind (lJ hB (by lia) fun st2 hB2 hg=>?_)
   refine wD hC hn n1 (by lia) hB2 (fun i j hi hij hj=>?_) (lK hg (by lia) (by lia)) h
   rw [kN hg eq,kN hg eq]
   by_cases c1 : j < lo + n
   ·rw [eq j (by lia) c1,eq i hi (by lia)]; exact Int.le_refl _
   ·have : j = lo + n:=by lia
    subst this
    by_cases c2 : i = lo + n
    ·rw [c2]; exact Int.le_refl _
    ·rw [eq i hi (by lia)]; lia
  ·exact wpS_pure (h n st hB n1 n2 so Out.refl)
 ·rw [if_neg e2]
  have : n = 1:=by lia
  subst this
  refine wD hC hn n1 (by lia) hB (fun i j hi hij hj=>?_) Out.refl h
  by_cases c1 : i = j
  ·rw [c1]; exact Int.le_refl _
  ·have : i = lo:=by lia
   have : j = lo + 1:=by lia
   subst i; subst j
   rw [show lo + 1 - 1 = lo by lia] at hlt
   lia
end
end PyProof.Rows
namespace PyProof.Rows
open PySem
theorem yB (left : Bool) (key : Keyed) (arr : Array Keyed) (base n hint : Nat) : dA left key arr base n hint = (do
 let beyond (i : Nat) : StateT SortSt Sem (Option Bool):=do
  let x ← elem' arr (base + i)
  if left then lt' x key else return (← lt' key x).map (!·)
 let mut lastofs:=0
 let mut ofs:=1
 let mut lo:=0
 let mut hi:=0
 let some right ← beyond hint | return none
 if right then
  let maxofs:=n - hint
  for _ in [0:n] do
   if ofs ≥ maxofs then break
   let some more ← beyond (hint + ofs) | return none
   if !more then break
   lastofs:=ofs
   ofs:=2 * ofs + 1
  lo:=hint + lastofs + 1
  hi:=hint + min ofs maxofs
 else
  let maxofs:=hint + 1
  for _ in [0:n] do
   if ofs ≥ maxofs then break
   let some found ← beyond (hint - ofs) | return none
   if found then break
   lastofs:=ofs
   ofs:=2 * ofs + 1
  lo:=hint + 1 - min ofs maxofs
  hi:=hint - lastofs
 for _ in [0:n] do
  if lo ≥ hi then break
  let m:=lo + (hi - lo) / 2
  let some more ← beyond m | return none
  if more then lo:=m + 1 else hi:=m
 return some hi):=rfl
def thr (left : Bool) (k : Int) : Int:=if left then k else k + 1
section
variable {prog : Program} {w : World} {A : Around} {E : Value→Shared→Prop} {s : Shared} {κ : SortKind} {a₀ : Array Keyed} {pd : Array (Nat × Nat × Nat)} {key : Keyed→Int}
theorem gJ {st : SortSt} {left : Bool} {x : Keyed} {arr : Array Keyed} {j : Nat} {Q : Option Bool→SortSt→Prop} (hC : Cmp prog w A s κ a₀ key) (hk : kindOf st = κ) (hkey : x∈a₀.toList) (hin : ∀ x∈arr.toList,x∈a₀.toList) (hj : j < arr.size) (h : ∀ b,b = decide (kk key arr j < thr left (key x))→Q (some b) st) :
  wpS (model prog w) A E s (do
  let y ← elem' arr j
  if left then lt' y x else return (← lt' x y).map (!·)) Q st:=by
 have hm : arr[j]∈a₀.toList:=hin _ (by simp)
 refine wpS_bind (bN (getElem?_pos arr j hj) ?_)
 cases left
 ·rw [if_neg (by decide)]
  refine wpS_bind (kM hC hk hkey hm (wpS_pure (h _ ?_)))
  rw [bX hj]
  show (!decide (key x < key arr[j])) = decide (key arr[j] < key x + 1)
  by_cases c : key x < key arr[j]
  ·rw [decide_eq_true c,decide_eq_false (by lia)]; rfl
  ·rw [decide_eq_false c,decide_eq_true (by lia)]; rfl
 ·rw [if_pos rfl]
  refine kM hC hk hm hkey (h _ ?_)
  rw [bX hj]; rfl
theorem sX {st : SortSt} {left : Bool} {x : Keyed} {arr : Array Keyed} {base n l u : Nat} {Q : Option Nat→SortSt→Prop} (hC : Cmp prog w A s κ a₀ key) (hk : kindOf st = κ) (hkey : x∈a₀.toList) (hin : ∀ x∈arr.toList,x∈a₀.toList) (hn : base + n ≤ arr.size) (so : So key arr base (base + n)) (hl : l ≤ u) (hu : u ≤ n)
  (f1 : ∀ i,i < l→kk key arr (base + i) < thr left (key x)) (f2 : ∀ i,u ≤ i→i < n→thr left (key x) ≤ kk key arr (base + i))
  (h : ∀ k,k ≤ n→(∀ i,i < k→kk key arr (base + i) < thr left (key x))→(∀ i,k ≤ i→i < n→thr left (key x) ≤ kk key arr (base + i))→Q (some k) st) : wpS (model prog w) A E s (do
   let mut lo:=l
   let mut hi:=u
   for _ in [0:n] do
    if lo ≥ hi then break
    let m:=lo + (hi - lo) / 2
    let some more ← (do
     let y ← elem' arr (base + m)
     if left then lt' y x else return (← lt' x y).map (!·)) | return none
    if more then lo:=m + 1 else hi:=m
   return some hi) Q st:=by
 refine wpS_bind (wpS_mono (wpS_forRange (I:=fun j c st'=>(∃ l u,c = (none,l,u)∧l ≤ u∧u ≤ n∧u ≤ l + (n - j)∧(∀ i,i < l→kk key arr (base + i) < thr left (key x))∧(∀ i,u ≤ i→i < n→thr left (key x) ≤ kk key arr (base + i)))∧st = st') (Q:=fun c st'=>(∃ l u,c = (none,l,u)∧u ≤ l∧u ≤ n∧(∀ i,i < l→kk key arr (base + i) < thr left (key x))∧(∀ i,u ≤ i→i < n→thr left (key x) ≤ kk key arr (base + i)))∧st = st') ?_ ?_ ⟨⟨_,_,rfl,hl,hu,by lia,f1,f2⟩,rfl⟩) ?_)
 ·rintro j c st' _ hj ⟨⟨l,u,rfl,hlu,hu,hd,f1,f2⟩,rfl⟩
  dsimp only
  by_cases hlr : l ≥ u
  ·rw [if_pos hlr]; exact wpS_pure ⟨⟨_,_,rfl,hlr,hu,f1,f2⟩,rfl⟩
  ·rw [if_neg hlr]
   refine wpS_bind (gJ hC hk hkey hin (by lia) fun more e=>?_)
   cases more
   ·have e':=of_decide_eq_false e.symm
    refine wpS_pure ⟨⟨_,_,rfl,by lia,by lia,by lia,f1,fun i hi hi'=>?_⟩,rfl⟩
    have:=so (base + (l + (u - l) / 2)) (base + i) (by lia) (by lia) (by lia)
    lia
   ·have e':=of_decide_eq_true e.symm
    refine wpS_pure ⟨⟨_,_,rfl,by lia,by lia,by lia,fun i hi=>?_,f2⟩,rfl⟩
    have:=so (base + i) (base + (l + (u - l) / 2)) (by lia) (by lia) (by lia)
    lia
 ·rintro c st' ⟨⟨l,u,rfl,hlu,hu,hd,f1,f2⟩,rfl⟩
  exact ⟨⟨_,_,rfl,by lia,hu,f1,f2⟩,rfl⟩
 ·rintro c st' ⟨⟨l,u,rfl,hlu,hu,f1,f2⟩,rfl⟩
  exact wpS_pure (h u hu (fun i hi=>f1 i (by lia)) f2)
theorem eQ {st : SortSt} {left : Bool} {x : Keyed} {arr : Array Keyed} {base n hint : Nat} {Q : Option Nat→SortSt→Prop} (hC : Cmp prog w A s κ a₀ key) (hk : kindOf st = κ) (hkey : x∈a₀.toList) (hin : ∀ x∈arr.toList,x∈a₀.toList) (hn : base + n ≤ arr.size) (hh : hint < n) (so : So key arr base (base + n))
  (h : ∀ k,k ≤ n→(∀ i,i < k→kk key arr (base + i) < thr left (key x))→(∀ i,k ≤ i→i < n→thr left (key x) ≤ kk key arr (base + i))→Q (some k) st) : wpS (model prog w) A E s (dA left x arr base n hint) Q st:=by
 rw [yB]
 refine wpS_bind (gJ hC hk hkey hin (by lia) fun right er=>?_)
 cases right
 ·have er':=of_decide_eq_false er.symm
  dsimp only
  rw [if_neg (by decide)]
  refine wpS_bind (wpS_mono (wpS_forRange (I:=fun j c st'=>(∃ l o,c = (none,l,o)∧l < o∧j < o∧l ≤ hint∧thr left (key x) ≤ kk key arr (base + (hint - l)))∧st = st') (Q:=fun c st'=>(∃ l o,c = (none,l,o)∧l < o∧l ≤ hint∧thr left (key x) ≤ kk key arr (base + (hint - l))∧(hint + 1 ≤ o∨kk key arr (base + (hint - o)) < thr left (key x)))∧st = st') ?_ ?_ ⟨⟨_,_,rfl,by lia,by lia,by lia,by rw [Nat.sub_zero]; lia⟩,rfl⟩) ?_)
  ·rintro j c st' _ _ ⟨⟨l,o,rfl,hlo,hjo,hl,f⟩,rfl⟩
   dsimp only
   by_cases hlr : o ≥ hint + 1
   ·rw [if_pos hlr]; exact wpS_pure ⟨⟨_,_,rfl,hlo,hl,f,.inl hlr⟩,rfl⟩
   ·rw [if_neg hlr]
    refine wpS_bind (gJ hC hk hkey hin (by lia) fun found e=>?_)
    cases found
    ·have e':=of_decide_eq_false e.symm
     exact wpS_pure ⟨⟨_,_,rfl,by lia,by lia,by lia,by lia⟩,rfl⟩
    ·exact wpS_pure ⟨⟨_,_,rfl,hlo,hl,f,.inr (of_decide_eq_true e.symm)⟩,rfl⟩
  ·rintro c st' ⟨⟨l,o,rfl,hlo,hjo,hl,f⟩,rfl⟩
   exact ⟨⟨_,_,rfl,hlo,hl,f,.inl (by lia)⟩,rfl⟩
  ·rintro c st' ⟨⟨l,o,rfl,hlo,hl,f,e⟩,rfl⟩
   dsimp only
   refine sX hC hk hkey hin hn so (by lia) (by lia) (fun i hi=>?_) (fun i hi hi'=>?_) h
   ·rcases e with e | e
    ·lia
    ·by_cases c : hint + 1 ≤ o
     ·lia
     ·have:=so (base + i) (base + (hint - o)) (by lia) (by lia) (by lia)
      lia
   ·have:=so (base + (hint - l)) (base + i) (by lia) (by lia) (by lia)
    lia
 ·have er':=of_decide_eq_true er.symm
  dsimp only
  rw [if_pos rfl]
  refine wpS_bind (wpS_mono (wpS_forRange (I:=fun j c st'=>(∃ l o,c = (none,l,o)∧l < o∧j < o∧l < n - hint∧kk key arr (base + (hint + l)) < thr left (key x))∧st = st') (Q:=fun c st'=>(∃ l o,c = (none,l,o)∧l < o∧l < n - hint∧kk key arr (base + (hint + l)) < thr left (key x)∧(n - hint ≤ o∨thr left (key x) ≤ kk key arr (base + (hint + o))))∧st = st') ?_ ?_ ⟨⟨_,_,rfl,by lia,by lia,by lia,by rw [Nat.add_zero]; exact er'⟩,rfl⟩) ?_)
  ·rintro j c st' _ _ ⟨⟨l,o,rfl,hlo,hjo,hl,f⟩,rfl⟩
   dsimp only
   by_cases hlr : o ≥ n - hint
   ·rw [if_pos hlr]; exact wpS_pure ⟨⟨_,_,rfl,hlo,hl,f,.inl hlr⟩,rfl⟩
   ·rw [if_neg hlr]
    refine wpS_bind (gJ hC hk hkey hin (by lia) fun more e=>?_)
    cases more
    ·have e':=of_decide_eq_false e.symm
     exact wpS_pure ⟨⟨_,_,rfl,hlo,hl,f,.inr (by lia)⟩,rfl⟩
    ·exact wpS_pure ⟨⟨_,_,rfl,by lia,by lia,by lia,of_decide_eq_true e.symm⟩,rfl⟩
  ·rintro c st' ⟨⟨l,o,rfl,hlo,hjo,hl,f⟩,rfl⟩
   exact ⟨⟨_,_,rfl,hlo,hl,f,.inl (by lia)⟩,rfl⟩
  ·rintro c st' ⟨⟨l,o,rfl,hlo,hl,f,e⟩,rfl⟩
   dsimp only
   refine sX hC hk hkey hin hn so (by lia) (by lia) (fun i hi=>?_) (fun i hi hi'=>?_) h
   ·have:=so (base + i) (base + (hint + l)) (by lia) (by lia) (by lia)
    lia
   ·rcases e with e | e
    ·lia
    ·by_cases c : n - hint ≤ o
     ·lia
     ·have:=so (base + (hint + o)) (base + i) (by lia) (by lia) (by lia)
      lia
end
end PyProof.Rows
namespace PyProof.Rows
open PySem
theorem dP (g : Nat) : cR g = modify fun s=>SortSt.mk' (kindOf s) (arrOf s) (pendingOf s) g (failedOf s):=rfl
structure SM (κ : SortKind) (ar : Array Keyed) (pd : Array (Nat × Nat × Nat)) (st : SortSt) : Prop where
 arr : arrOf st = ar
 kind : kindOf st = κ
 failed : failedOf st = none
 pend : pendingOf st = pd
abbrev GSt:=Option (Array Keyed) × Array Keyed × Nat × Nat × Nat × Nat × Nat
abbrev hW (a b out : Array Keyed) (ia ib : Nat):=out ++ a.extract ia a.size ++ b.extract ib b.size
abbrev nX (a b out : Array Keyed) (ia ib : Nat):=out ++ b.extract ib b.size ++ a.extract ia a.size
def loC (a b out : Array Keyed) (ia ib mg ac bc : Nat) : StateT SortSt Sem (ForInStep GSt):=do
 let x ← elem' a ia
 if ia + 1 + 1 == a.size then pure (.done (some (nX a b (out.push x) (ia + 1) ib),out.push x,ia + 1,ib,mg,ac,bc))
 else if ac < 7 && bc < 7 then pure (.done (none,out.push x,ia + 1,ib,mg,ac,bc)) else pure (.yield (none,out.push x,ia + 1,ib,mg,ac,bc))
def loB (a b out : Array Keyed) (ia ib mg ac bc : Nat) : StateT SortSt Sem (ForInStep GSt):=do
 let x ← elem' b ib
 if ib + 1 == b.size then pure (.done (some (hW a b (out.push x) ia (ib + 1)),out.push x,ia,ib + 1,mg,ac,bc))
 else do
  let some k ← dA true (← elem' a ia) b (ib + 1) (b.size - (ib + 1)) 0 | pure (.done (some (hW a b (out.push x) ia (ib + 1)),out.push x,ia,ib + 1,mg,ac,bc))
  if k > 0 then
   if ib + 1 + k == b.size then pure (.done (some (hW a b (out.push x ++ b.extract (ib + 1) (ib + 1 + k)) ia (ib + 1 + k)),out.push x ++ b.extract (ib + 1) (ib + 1 + k),ia,ib + 1 + k,mg,ac,k))
   else loC a b (out.push x ++ b.extract (ib + 1) (ib + 1 + k)) ia (ib + 1 + k) mg ac k
  else loC a b (out.push x) ia (ib + 1) mg ac k
def loA (a b out : Array Keyed) (ia ib mg ac bc : Nat) : StateT SortSt Sem (ForInStep GSt):=do
 cR mg
 let some k ← dA false (← elem' b ib) a ia (a.size - ia) 0 | pure (.done (some (hW a b out ia ib),out,ia,ib,mg,ac,bc))
 if k > 0 then
  if ia + k + 1 == a.size then pure (.done (some (nX a b (out ++ a.extract ia (ia + k)) (ia + k) ib),out ++ a.extract ia (ia + k),ia + k,ib,mg,k,bc))
  else if ia + k == a.size then pure (.done (some (hW a b (out ++ a.extract ia (ia + k)) (ia + k) ib),out ++ a.extract ia (ia + k),ia + k,ib,mg,k,bc))
  else loB a b (out ++ a.extract ia (ia + k)) (ia + k) ib mg k bc
 else loB a b out ia ib mg k bc
theorem uZ (a b : Array Keyed) : mN a b = (do
 rule "list.sort.merge-lo"
 let total:=a.size + b.size
 let done (out : Array Keyed) (ia ib : Nat):=out ++ a.extract ia a.size ++ b.extract ib b.size
 let lastOfA (out : Array Keyed) (ia ib : Nat):=out ++ b.extract ib b.size ++ a.extract ia a.size
 let mut out : Array Keyed:=#[← elem' b 0]
 let mut ia:=0
 let mut ib:=1
 if ib == b.size then return done out ia ib
 if ia + 1 == a.size then return lastOfA out ia ib
 let mut minGallop:=gallopOf (← get)
 for _ in [0:total] do
  let mut acount:=0
  let mut bcount:=0
  for _ in [0:total] do
   let some bWins ← lt' (← elem' b ib) (← elem' a ia) | return done out ia ib
   if bWins then
    out:=out.push (← elem' b ib); ib:=ib + 1; bcount:=bcount + 1; acount:=0
    if ib == b.size then return done out ia ib
    if bcount ≥ minGallop then break
   else
    out:=out.push (← elem' a ia); ia:=ia + 1; acount:=acount + 1; bcount:=0
    if ia + 1 == a.size then return lastOfA out ia ib
    if acount ≥ minGallop then break
  rule "list.sort.gallop"
  minGallop:=minGallop + 1
  for _ in [0:total] do
   if minGallop > 1 then minGallop:=minGallop - 1
   cR minGallop
   let some k ← dA false (← elem' b ib) a ia (a.size - ia) 0 | return done out ia ib
   acount:=k
   if k > 0 then
    out:=out ++ a.extract ia (ia + k); ia:=ia + k
    if ia + 1 == a.size then return lastOfA out ia ib
    if ia == a.size then return done out ia ib
   out:=out.push (← elem' b ib); ib:=ib + 1
   if ib == b.size then return done out ia ib
   let some k ← dA true (← elem' a ia) b ib (b.size - ib) 0 | return done out ia ib
   bcount:=k
   if k > 0 then
    out:=out ++ b.extract ib (ib + k); ib:=ib + k
    if ib == b.size then return done out ia ib
   out:=out.push (← elem' a ia); ia:=ia + 1
   if ia + 1 == a.size then return lastOfA out ia ib
   if acount < 7 && bcount < 7 then break
  minGallop:=minGallop + 1
  cR minGallop
 unsupported "internal:list.sort.merge-bound"):=rfl
def PI (a b out : Array Keyed) (ia ib : Nat) : Prop:=out.toList.Perm (a.toList.take ia ++ b.toList.take ib)
theorem sY {l : List Keyed} {i : Nat} (h : i < l.length) : l.take (i + 1) = l.take i ++ [l[i]]:=by rw [List.take_add_one,List.getElem?_eq_getElem h]; rfl
theorem PI.pushA {a b out : Array Keyed} {ia ib : Nat} (h : PI a b out ia ib) (hi : ia < a.size) : PI a b (out.push a[ia]) (ia + 1) ib:=by
 unfold PI at h ⊢
 rw [Array.toList_push,sY (by simpa using hi),List.append_assoc]
 refine (h.append_right _).trans ?_
 rw [List.append_assoc]
 refine List.Perm.append_left _ ?_
 have : a.toList[ia]'(by simpa using hi) = a[ia]:=by simp
 rw [this]
 exact List.perm_append_comm
theorem dQ {a : Array Keyed} {i j : Nat} : (a.extract i j).toList = (a.toList.drop i).take (j - i):=by
 rw [Array.toList_extract,List.extract_eq_take_drop]
theorem aBA {a : Array Keyed} {i k : Nat} (h : i + k < a.size) : a.extract i (i + (k + 1)) = (a.extract i (i + k)).push a[i + k]:=by
 apply Array.toList_inj.mp
 rw [Array.toList_push,dQ,dQ,Nat.add_sub_cancel_left,Nat.add_sub_cancel_left,sY (by simp; lia)]
 congr 2
 simp
structure MI (key : Keyed→Int) (a b out : Array Keyed) (ia ib : Nat) : Prop where
 perm : PI a b out ia ib
 so : out.toList.Pairwise fun x y=>key x ≤ key y
 la : ∀ x∈out.toList,ia < a.size→key x ≤ kk key a ia
 lb : ∀ x∈out.toList,ib < b.size→key x ≤ kk key b ib
def Fi (key : Keyed→Int) (a b r : Array Keyed) : Prop:=r.Perm (a ++ b)∧r.toList.Pairwise fun x y=>key x ≤ key y
section
variable {key : Keyed→Int} {a b out : Array Keyed} {ia ib : Nat}
theorem MI.swap (h : MI key a b out ia ib) : MI key b a out ib ia:=⟨h.perm.trans List.perm_append_comm,h.so,h.lb,h.la⟩
theorem MI.pushA (h : MI key a b out ia ib) (hi : ia < a.size) (sa : So key a 0 a.size) (c : ib < b.size→kk key a ia ≤ kk key b ib) : MI key a b (out.push a[ia]) (ia + 1) ib:=by
 refine ⟨h.perm.pushA hi,?_,fun x hx hl=>?_,fun x hx hl=>?_⟩
 ·rw [Array.toList_push]
  refine List.pairwise_append.mpr ⟨h.so,List.pairwise_singleton _ _,fun x hx y hy=>?_⟩
  rw [List.mem_singleton.mp hy,← bX (key:=key) hi]
  exact h.la x hx hi
 ·rw [Array.toList_push] at hx
  have:=sa ia (ia + 1) (by lia) (by lia) hl
  rcases List.mem_append.mp hx with z | z
  ·have:=h.la x z hi; lia
  ·rw [List.mem_singleton.mp z,← bX (key:=key) hi]; exact this
 ·rw [Array.toList_push] at hx
  rcases List.mem_append.mp hx with z | z
  ·exact h.lb x z hl
  ·rw [List.mem_singleton.mp z,← bX (key:=key) hi]; exact c hl
theorem MI.appA (h : MI key a b out ia ib) (sa : So key a 0 a.size) : ∀ (k : Nat),ia + k ≤ a.size→(ib < b.size→∀ i,i < k→kk key a (ia + i) ≤ kk key b ib)→MI key a b (out ++ a.extract ia (ia + k)) (ia + k) ib
 | 0,_,_=>by
  have e : a.extract ia (ia + 0) = #[]:=by simp; lia
  rw [e,Array.append_empty]; exact h
 | k + 1,hk,c=>by
  have:=(MI.appA h sa k (by lia) fun hb i hi=>c hb i (by lia)).pushA (by lia) sa fun hb=>c hb k (by lia)
  rw [aBA (by lia),← Array.push_append]
  exact this
theorem MI.pushB (h : MI key a b out ia ib) (hi : ib < b.size) (sb : So key b 0 b.size) (c : ia < a.size→kk key b ib ≤ kk key a ia) : MI key a b (out.push b[ib]) ia (ib + 1):=(h.swap.pushA hi sb c).swap
theorem MI.appB (h : MI key a b out ia ib) (sb : So key b 0 b.size) (k : Nat) (hk : ib + k ≤ b.size) (c : ia < a.size→∀ i,i < k→kk key b (ib + i) ≤ kk key a ia) : MI key a b (out ++ b.extract ib (ib + k)) ia (ib + k):=(h.swap.appA sb k hk c).swap
theorem MI.fin (h : MI key a b out a.size b.size) : Fi key a b out:=by
 refine ⟨?_,h.so⟩
 have:=h.perm
 unfold PI at this
 rw [List.take_of_length_le (by simp),List.take_of_length_le (by simp)] at this
 rw [Array.perm_iff_toList_perm,Array.toList_append]
 exact this
theorem MI.done (h : MI key a b out ia ib) (sa : So key a 0 a.size) (sb : So key b 0 b.size) (ha : ia ≤ a.size) (hb : ib ≤ b.size) (c : ib < b.size→∀ i,i < a.size - ia→kk key a (ia + i) ≤ kk key b ib) : Fi key a b (hW a b out ia ib):=by
 have h1:=h.appA sa (a.size - ia) (by lia) c
 rw [show ia + (a.size - ia) = a.size by lia] at h1
 have h2:=h1.appB sb (b.size - ib) (by lia) fun z=>by lia
 rw [show ib + (b.size - ib) = b.size by lia] at h2
 exact h2.fin
theorem MI.last (h : MI key a b out ia ib) (sa : So key a 0 a.size) (sb : So key b 0 b.size) (ha : ia ≤ a.size) (hb : ib ≤ b.size) (c : ia < a.size→∀ i,i < b.size - ib→kk key b (ib + i) ≤ kk key a ia) : Fi key a b (nX a b out ia ib):=by
 have:=h.swap.done sb sa hb ha c
 refine ⟨this.1.trans ?_,this.2⟩
 rw [Array.perm_iff_toList_perm,Array.toList_append,Array.toList_append]
 exact List.perm_append_comm
end
section
variable {prog : Program} {w : World} {A : Around} {E : Value→Shared→Prop} {s : Shared} {κ : SortKind} {a₀ : Array Keyed} {pd : Array (Nat × Nat × Nat)} {ar : Array Keyed} {key : Keyed→Int}
structure Two (key : Keyed→Int) (a₀ a b : Array Keyed) : Prop where
 ha : ∀ x∈a.toList,x∈a₀.toList
 hb : ∀ x∈b.toList,x∈a₀.toList
 a1 : 1 ≤ a.size
 b1 : 1 ≤ b.size
 sa : So key a 0 a.size
 sb : So key b 0 b.size
 c0 : kk key b 0 ≤ kk key a 0
 c1 : ∀ i,i < b.size→kk key b i ≤ kk key a (a.size - 1)
theorem Two.last {a b : Array Keyed} (T : Two key a₀ a b) {out : Array Keyed} {ia ib : Nat} (h : MI key a b out ia ib) (ha : ia + 1 = a.size) (hb : ib ≤ b.size) : Fi key a b (nX a b out ia ib) :=
 h.last T.sa T.sb (by lia) hb fun _ i hi=>by
  have:=T.c1 (ib + i) (by lia)
  rw [show a.size - 1 = ia by lia] at this
  exact this
theorem Two.done {a b : Array Keyed} (T : Two key a₀ a b) {out : Array Keyed} {ia ib : Nat} (h : MI key a b out ia ib) (ha : ia ≤ a.size) (hb : ib = b.size) : Fi key a b (hW a b out ia ib) :=
 h.done T.sa T.sb ha (by lia) fun z=>by lia
def GP (κ : SortKind) (ar : Array Keyed) (pd : Array (Nat × Nat × Nat)) (key : Keyed→Int) (a b : Array Keyed) (n : Nat) (r : ForInStep GSt) (st : SortSt) : Prop:=SM κ ar pd st ∧
 ((∃ x c,r = .done (some x,c)∧Fi key a b x)∨∃ out ia ib mg ac bc,(r = .done (none,out,ia,ib,mg,ac,bc)∨r = .yield (none,out,ia,ib,mg,ac,bc))∧MI key a b out ia ib∧ia + 1 < a.size∧ib < b.size∧n ≤ ia + ib)
theorem wE {st : SortSt} {a b out : Array Keyed} {ia ib mg ac bc n : Nat} (T : Two key a₀ a b) (hB : SM κ ar pd st) (h : MI key a b out ia ib) (la : ia + 1 < a.size) (lb : ib < b.size) (li : n ≤ ia + ib) (c : kk key a ia ≤ kk key b ib) :
  wpS (model prog w) A E s (loC a b out ia ib mg ac bc) (GP κ ar pd key a b n) st:=by
 unfold loC
 refine wpS_bind (bN (getElem?_pos a ia (by lia)) ?_)
 have p:=h.pushA (show ia < a.size by lia) T.sa fun _=>c
 by_cases f : (ia + 1 + 1 == a.size) = true
 ·rw [if_pos f]; exact wpS_pure ⟨hB,.inl ⟨_,_,rfl,T.last p (by simpa using f) (by lia)⟩⟩
 rw [if_neg f]
 have g : ¬ (ia + 1 + 1 = a.size):=by simpa using f
 split
 ·exact wpS_pure ⟨hB,.inr ⟨_,_,_,_,_,_,.inl rfl,p,by lia,by lia,by lia⟩⟩
 ·exact wpS_pure ⟨hB,.inr ⟨_,_,_,_,_,_,.inr rfl,p,by lia,by lia,by lia⟩⟩
theorem wF {st : SortSt} {a b out : Array Keyed} {ia ib mg ac bc n : Nat} (hC : Cmp prog w A s κ a₀ key) (T : Two key a₀ a b) (hB : SM κ ar pd st) (h : MI key a b out ia ib) (la : ia + 1 < a.size) (lb : ib < b.size) (li : n ≤ ia + ib) (c : kk key b ib ≤ kk key a ia) :
  wpS (model prog w) A E s (loB a b out ia ib mg ac bc) (GP κ ar pd key a b n) st:=by
 unfold loB
 refine wpS_bind (bN (getElem?_pos b ib (by lia)) ?_)
 have p:=h.pushB lb T.sb fun _=>c
 by_cases f : (ib + 1 == b.size) = true
 ·rw [if_pos f]; exact wpS_pure ⟨hB,.inl ⟨_,_,rfl,T.done p (by lia) (by simpa using f)⟩⟩
 rw [if_neg f]
 have g : ¬ (ib + 1 = b.size):=by simpa using f
 refine wpS_bind (bN (getElem?_pos a ia (by lia)) ?_)
 refine wpS_bind (eQ hC hB.kind (T.ha _ (by simp)) T.hb (by lia) (by lia) (fun i j h1 h2 h3=>T.sb i j (by lia) h2 (by lia)) fun k hk q1 q2=>?_)
 rw [← bX (key:=key) (a:=a) (i:=ia) (by lia)] at q1 q2
 simp only [thr,if_true] at q1 q2
 dsimp only
 by_cases kp : k > 0
 ·rw [if_pos kp]
  have p2:=p.appB T.sb k (by lia) fun _ i hi=>by have:=q1 i hi; lia
  by_cases f2 : (ib + 1 + k == b.size) = true
  ·rw [if_pos f2]; exact wpS_pure ⟨hB,.inl ⟨_,_,rfl,T.done p2 (by lia) (by simpa using f2)⟩⟩
  rw [if_neg f2]
  have g2 : ¬ (ib + 1 + k = b.size):=by simpa using f2
  exact wE T hB p2 la (by lia) (by lia) (q2 k (by lia) (by lia))
 ·rw [if_neg kp]
  have e : k = 0:=by lia
  subst e
  exact wE T hB p la (by lia) (by lia) (q2 0 (by lia) (by lia))
theorem aCI {st : SortSt} {a b out : Array Keyed} {ia ib mg ac bc n : Nat} (hC : Cmp prog w A s κ a₀ key) (T : Two key a₀ a b) (hB : SM κ ar pd st) (h : MI key a b out ia ib) (la : ia + 1 < a.size) (lb : ib < b.size) (li : n ≤ ia + ib) :
  wpS (model prog w) A E s (loA a b out ia ib mg ac bc) (GP κ ar pd key a b n) st:=by
 unfold loA
 rw [dP]
 refine wpS_bind (wpS_modify ?_)
 have hB2 : SM κ ar pd (SortSt.mk' (kindOf st) (arrOf st) (pendingOf st) mg (failedOf st)):=⟨hB.arr,hB.kind,hB.failed,hB.pend⟩
 refine wpS_bind (bN (getElem?_pos b ib (by lia)) ?_)
 refine wpS_bind (eQ hC hB2.kind (T.hb _ (by simp)) T.ha (by lia) (by lia) (fun i j h1 h2 h3=>T.sa i j (by lia) h2 (by lia)) fun k hk q1 q2=>?_)
 rw [← bX (key:=key) (a:=b) (i:=ib) (by lia)] at q1 q2
 simp only [thr,Bool.false_eq_true,if_false] at q1 q2
 dsimp only
 by_cases kp : k > 0
 ·rw [if_pos kp]
  have p2:=h.appA T.sa k (by lia) fun _ i hi=>by have:=q1 i hi; lia
  by_cases f4 : (ia + k + 1 == a.size) = true
  ·rw [if_pos f4]; exact wpS_pure ⟨hB2,.inl ⟨_,_,rfl,T.last p2 (by simpa using f4) (by lia)⟩⟩
  rw [if_neg f4]
  have g4 : ¬ (ia + k + 1 = a.size):=by simpa using f4
  by_cases f5 : (ia + k == a.size) = true
  ·rw [if_pos f5]
   have g5 : ia + k = a.size:=by simpa using f5
   exact wpS_pure ⟨hB2,.inl ⟨_,_,rfl,p2.done T.sa T.sb (by lia) (by lia) fun _ i hi=>by lia⟩⟩
  rw [if_neg f5]
  have g5 : ¬ (ia + k = a.size):=by simpa using f5
  exact wF hC T hB2 p2 (by lia) lb (by lia) (by have:=q2 k (by lia) (by lia); lia)
 ·rw [if_neg kp]
  have e : k = 0:=by lia
  subst e
  exact wF hC T hB2 h la lb li (by have:=q2 0 (by lia) (by lia); rw [Nat.add_zero] at this; lia)
theorem vA {st : SortSt} {a b : Array Keyed} {Q : Array Keyed→SortSt→Prop} (hC : Cmp prog w A s κ a₀ key) (hB : SM κ ar pd st) (T : Two key a₀ a b)
  (h : ∀ out st',Fi key a b out→SM κ ar pd st'→Q out st') : wpS (model prog w) A E s (mN a b) Q st:=by
 have a1:=T.a1
 have b1:=T.b1
 rw [uZ]
 refine wpS_bind (wpS_lift (wpAny_rule ⟨rfl,?_⟩))
 refine wpS_bind (bN (getElem?_pos b 0 (by lia)) ?_)
 dsimp only
 have p0 : MI key a b #[b[0]] 0 1:=by
  have : MI key a b #[] 0 0:=⟨by unfold PI; simp,List.Pairwise.nil,fun x hx=>by simp at hx,fun x hx=>by simp at hx⟩
  exact this.pushB (by lia) T.sb fun _=>T.c0
 by_cases e1 : (1 == b.size) = true
 ·rw [if_pos e1]
  exact wpS_pure (h _ _ (T.done p0 (by lia) (by simpa using e1)) hB)
 rw [if_neg e1]
 have n1 : ¬ (1 = b.size):=by simpa using e1
 by_cases e2 : (0 + 1 == a.size) = true
 ·rw [if_pos e2]
  exact wpS_pure (h _ _ (T.last p0 (by simpa using e2) (by lia)) hB)
 rw [if_neg e2]
 have n2 : ¬ (0 + 1 = a.size):=by simpa using e2
 refine wpS_bind (wpS_get ?_)
 refine wpS_bind (wpS_mono (wpS_forRange (I:=fun i c st'=>SM κ ar pd st'∧∃ out ia ib mg,c = (none,out,ia,ib,mg)∧MI key a b out ia ib∧ia + 1 < a.size∧ib < b.size∧i ≤ ia + ib) (Q:=fun c st'=>SM κ ar pd st'∧∃ r c',c = (some r,c')∧Fi key a b r) ?_ ?_ ⟨hB,_,_,_,_,rfl,p0,by lia,by lia,by lia⟩) ?_)
 ·rintro i c st1 _ hi ⟨hB0,out,ia,ib,mg,rfl,p1,la,lb,li⟩
  dsimp only
  refine wpS_bind (wpS_mono (wpS_forRange (I:=fun x c st'=>SM κ ar pd st'∧∃ out ia ib ac bc,c = (none,out,ia,ib,ac,bc)∧MI key a b out ia ib∧ia + 1 < a.size∧ib < b.size∧i + x ≤ ia + ib) (Q:=fun c st'=>SM κ ar pd st'∧((∃ r c',c = (some r,c')∧Fi key a b r)∨∃ out ia ib ac bc,c = (none,out,ia,ib,ac,bc)∧MI key a b out ia ib∧ia + 1 < a.size∧ib < b.size∧i + 1 ≤ ia + ib)) ?_ ?_ ⟨hB0,_,_,_,_,_,rfl,p1,la,lb,by lia⟩) ?_)
  ·rintro x c st2 _ hx ⟨hB1,out,ia,ib,ac,bc,rfl,p1,la,lb,li⟩
   dsimp only
   refine wpS_bind (bN (getElem?_pos b ib (by lia)) ?_)
   refine wpS_bind (bN (getElem?_pos a ia (by lia)) ?_)
   refine wpS_bind (kM hC hB1.kind (T.hb _ (by simp)) (T.ha _ (by simp)) ?_)
   rw [← bX (key:=key) (a:=b) (i:=ib) (by lia),← bX (key:=key) (a:=a) (i:=ia) (by lia)]
   by_cases bw : kk key b ib < kk key a ia
   ·rw [decide_eq_true bw]
    dsimp only
    rw [if_pos rfl]
    refine wpS_bind (bN (getElem?_pos b ib (by lia)) ?_)
    have p2:=p1.pushB (show ib < b.size by lia) T.sb fun _=>by lia
    by_cases f1 : (ib + 1 == b.size) = true
    ·rw [if_pos f1]; exact wpS_pure ⟨hB1,.inl ⟨_,_,rfl,T.done p2 (by lia) (by simpa using f1)⟩⟩
    rw [if_neg f1]
    have g1 : ¬ (ib + 1 = b.size):=by simpa using f1
    split
    ·exact wpS_pure ⟨hB1,.inr ⟨_,_,_,_,_,rfl,p2,by lia,by lia,by lia⟩⟩
    ·exact wpS_pure ⟨hB1,_,_,_,_,_,rfl,p2,by lia,by lia,by lia⟩
   ·rw [decide_eq_false bw]
    dsimp only
    rw [if_neg (by decide)]
    refine wpS_bind (bN (getElem?_pos a ia (by lia)) ?_)
    have p2:=p1.pushA (show ia < a.size by lia) T.sa fun _=>by lia
    by_cases f1 : (ia + 1 + 1 == a.size) = true
    ·rw [if_pos f1]; exact wpS_pure ⟨hB1,.inl ⟨_,_,rfl,T.last p2 (by simpa using f1) (by lia)⟩⟩
    rw [if_neg f1]
    have g1 : ¬ (ia + 1 + 1 = a.size):=by simpa using f1
    split
    ·exact wpS_pure ⟨hB1,.inr ⟨_,_,_,_,_,rfl,p2,by lia,by lia,by lia⟩⟩
    ·exact wpS_pure ⟨hB1,_,_,_,_,_,rfl,p2,by lia,by lia,by lia⟩
  ·rintro c st2 ⟨hB1,out,ia,ib,ac,bc,rfl,p1,la,lb,li⟩
   exact ⟨hB1,.inr ⟨_,_,_,_,_,rfl,p1,la,lb,by lia⟩⟩
  ·rintro c st2 ⟨hB1,⟨r,c',rfl,hp⟩ | ⟨out,ia,ib,ac,bc,rfl,p1,la,lb,li⟩⟩
   ·exact wpS_pure ⟨hB1,_,_,rfl,hp⟩
   ·dsimp only
    refine wpS_bind (wpS_lift (wpAny_rule ⟨rfl,?_⟩))
    refine wpS_bind (wpS_mono (wpS_forRange (I:=fun x c st'=>SM κ ar pd st'∧∃ out ia ib mg ac bc,c = (none,out,ia,ib,mg,ac,bc)∧MI key a b out ia ib∧ia + 1 < a.size∧ib < b.size∧i + 1 ≤ ia + ib) (Q:=fun c st'=>SM κ ar pd st'∧((∃ r c',c = (some r,c')∧Fi key a b r)∨∃ out ia ib mg ac bc,c = (none,out,ia,ib,mg,ac,bc)∧MI key a b out ia ib∧ia + 1 < a.size∧ib < b.size∧i + 1 ≤ ia + ib)) ?_ ?_ ⟨hB1,_,_,_,_,_,_,rfl,p1,la,lb,li⟩) ?_)
    ·rintro x c st2 _ hx ⟨hB1,out,ia,ib,mg,ac,bc,rfl,p1,la,lb,li⟩
     change wpS (model prog w) A E s (if mg > 1 then loA a b out ia ib (mg - 1) ac bc else loA a b out ia ib mg ac bc) _ st2
     split <;>
     ·refine wpS_mono (aCI hC T hB1 p1 la lb li) ?_
      rintro r st' ⟨m,⟨x,c,rfl,hf⟩ | ⟨out,ia,ib,mg,ac,bc,rfl | rfl,hh⟩⟩
      ·exact ⟨m,.inl ⟨_,_,rfl,hf⟩⟩
      ·exact ⟨m,.inr ⟨_,_,_,_,_,_,rfl,hh⟩⟩
      ·exact ⟨m,_,_,_,_,_,_,rfl,hh⟩
    ·rintro c st2 ⟨hB1,hh⟩
     exact ⟨hB1,.inr hh⟩
    ·rintro c st2 ⟨hB1,⟨r,c',rfl,hp⟩ | ⟨out,ia,ib,mg,ac,bc,rfl,p1,la,lb,li⟩⟩
     ·exact wpS_pure ⟨hB1,_,_,rfl,hp⟩
     ·dsimp only
      rw [dP]
      refine wpS_bind (wpS_modify ?_)
      exact wpS_pure ⟨⟨hB1.arr,hB1.kind,hB1.failed,hB1.pend⟩,_,_,_,_,rfl,p1,la,lb,li⟩
 ·rintro c st1 ⟨hB0,out,ia,ib,mg,rfl,p1,la,lb,li⟩
  lia
 ·rintro c st1 ⟨hB0,r,c',rfl,hp⟩
  exact wpS_pure (h r st1 hp hB0)
end
end PyProof.Rows
namespace PyProof.Rows
open PySem
abbrev HSt:=Option (Array Keyed) × Nat × Nat × Array Keyed × Nat × Nat × Nat
abbrev hX (a b out : Array Keyed) (na nb : Nat):=a.extract 0 na ++ b.extract 0 nb ++ out.reverse
abbrev iY (a b out : Array Keyed) (na nb : Nat):=b.extract 0 nb ++ a.extract 0 na ++ out.reverse
def hiC (a b : Array Keyed) (na nb : Nat) (out : Array Keyed) (mg ac bc : Nat) : StateT SortSt Sem (ForInStep HSt):=do
 let x ← elem' a (na - 1)
 if na - 1 == 0 then pure (.done (some (hX a b (out.push x) (na - 1) nb),na - 1,nb,out.push x,mg,ac,bc))
 else if ac < 7 && bc < 7 then pure (.done (none,na - 1,nb,out.push x,mg,ac,bc)) else pure (.yield (none,na - 1,nb,out.push x,mg,ac,bc))
def hiB (a b : Array Keyed) (na nb : Nat) (out : Array Keyed) (mg ac bc : Nat) : StateT SortSt Sem (ForInStep HSt):=do
 let x ← elem' b (nb - 1)
 if nb - 1 == 1 then pure (.done (some (iY a b (out.push x) na (nb - 1)),na,nb - 1,out.push x,mg,ac,bc))
 else do
  let some at_ ← dA true (← elem' a (na - 1)) b 0 (nb - 1) (nb - 1 - 1) | pure (.done (some (hX a b (out.push x) na (nb - 1)),na,nb - 1,out.push x,mg,ac,bc))
  if nb - 1 - at_ > 0 then
   if at_ == 1 then pure (.done (some (iY a b (out.push x ++ (b.extract at_ (nb - 1)).reverse) na at_),na,at_,out.push x ++ (b.extract at_ (nb - 1)).reverse,mg,ac,nb - 1 - at_))
   else if at_ == 0 then pure (.done (some (hX a b (out.push x ++ (b.extract at_ (nb - 1)).reverse) na at_),na,at_,out.push x ++ (b.extract at_ (nb - 1)).reverse,mg,ac,nb - 1 - at_))
   else hiC a b na at_ (out.push x ++ (b.extract at_ (nb - 1)).reverse) mg ac (nb - 1 - at_)
  else hiC a b na (nb - 1) (out.push x) mg ac (nb - 1 - at_)
def hiA (a b : Array Keyed) (na nb : Nat) (out : Array Keyed) (mg ac bc : Nat) : StateT SortSt Sem (ForInStep HSt):=do
 cR mg
 let some at_ ← dA false (← elem' b (nb - 1)) a 0 na (na - 1) | pure (.done (some (hX a b out na nb),na,nb,out,mg,ac,bc))
 if na - at_ > 0 then
  if at_ == 0 then pure (.done (some (hX a b (out ++ (a.extract at_ na).reverse) at_ nb),at_,nb,out ++ (a.extract at_ na).reverse,mg,na - at_,bc))
  else hiB a b at_ nb (out ++ (a.extract at_ na).reverse) mg (na - at_) bc
 else hiB a b na nb out mg (na - at_) bc
theorem vB (a b : Array Keyed) : mP a b = (do
 rule "list.sort.merge-hi"
 let total:=a.size + b.size
 let done (out : Array Keyed) (na nb : Nat):=a.extract 0 na ++ b.extract 0 nb ++ out.reverse
 let firstOfB (out : Array Keyed) (na nb : Nat):=b.extract 0 nb ++ a.extract 0 na ++ out.reverse
 let mut na:=a.size - 1
 let mut nb:=b.size
 let mut out : Array Keyed:=#[← elem' a na]
 if na == 0 then return done out na nb
 if nb == 1 then return firstOfB out na nb
 let mut minGallop:=gallopOf (← get)
 for _ in [0:total] do
  let mut acount:=0
  let mut bcount:=0
  for _ in [0:total] do
   let some aWins ← lt' (← elem' b (nb - 1)) (← elem' a (na - 1)) | return done out na nb
   if aWins then
    na:=na - 1; out:=out.push (← elem' a na); acount:=acount + 1; bcount:=0
    if na == 0 then return done out na nb
    if acount ≥ minGallop then break
   else
    nb:=nb - 1; out:=out.push (← elem' b nb); bcount:=bcount + 1; acount:=0
    if nb == 1 then return firstOfB out na nb
    if bcount ≥ minGallop then break
  rule "list.sort.gallop"
  minGallop:=minGallop + 1
  for _ in [0:total] do
   if minGallop > 1 then minGallop:=minGallop - 1
   cR minGallop
   let some at_ ← dA false (← elem' b (nb - 1)) a 0 na (na - 1) | return done out na nb
   let k:=na - at_
   acount:=k
   if k > 0 then
    out:=out ++ (a.extract at_ na).reverse; na:=at_
    if na == 0 then return done out na nb
   nb:=nb - 1; out:=out.push (← elem' b nb)
   if nb == 1 then return firstOfB out na nb
   let some at_ ← dA true (← elem' a (na - 1)) b 0 nb (nb - 1) | return done out na nb
   let k:=nb - at_
   bcount:=k
   if k > 0 then
    out:=out ++ (b.extract at_ nb).reverse; nb:=at_
    if nb == 1 then return firstOfB out na nb
    if nb == 0 then return done out na nb
   na:=na - 1; out:=out.push (← elem' a na)
   if na == 0 then return done out na nb
   if acount < 7 && bcount < 7 then break
  minGallop:=minGallop + 1
  cR minGallop
 unsupported "internal:list.sort.merge-bound"):=rfl
def PH (a b out : Array Keyed) (na nb : Nat) : Prop:=out.toList.Perm (a.toList.drop na ++ b.toList.drop nb)
theorem PH.pushA {a b out : Array Keyed} {na nb : Nat} (h : PH a b out na nb) (h1 : 1 ≤ na) (hi : na - 1 < a.size) : PH a b (out.push a[na - 1]) (na - 1) nb:=by
 unfold PH at h ⊢
 have e : a.toList.drop (na - 1) = a[na - 1] :: a.toList.drop na:=by
  have:=List.drop_eq_getElem_cons (l:=a.toList) (i:=na - 1) (by simpa using hi)
  rw [this,Nat.sub_add_cancel h1]
  simp
 rw [Array.toList_push,e]
 refine (h.append_right _).trans ?_
 exact List.perm_append_comm
theorem aCJ {a : Array Keyed} {k n : Nat} (h : k < n) (hn : n ≤ a.size) : (a.extract k n).reverse = (a.extract (k + 1) n).reverse.push a[k]:=by
 apply Array.toList_inj.mp
 rw [Array.toList_push,Array.toList_reverse,Array.toList_reverse,dQ,dQ]
 have e:=List.drop_eq_getElem_cons (l:=a.toList) (i:=k) (by simp; lia)
 rw [e,show n - k = (n - (k + 1)) + 1 by lia,List.take_succ_cons,List.reverse_cons]
 congr 2
theorem sZ {l : List Keyed} {i j : Nat} (h : i ≤ j) : l.drop i = (l.drop i).take (j - i) ++ l.drop j:=by
 have:=(List.take_append_drop (j - i) (l.drop i)).symm
 rw [List.drop_drop,show i + (j - i) = j by lia] at this
 exact this
structure HI (key : Keyed→Int) (a b out : Array Keyed) (na nb : Nat) : Prop where
 perm : PH a b out na nb
 so : out.toList.Pairwise fun x y=>key y ≤ key x
 la : ∀ x∈out.toList,0 < na→kk key a (na - 1) ≤ key x
 lb : ∀ x∈out.toList,0 < nb→kk key b (nb - 1) ≤ key x
section
variable {key : Keyed→Int} {a b out : Array Keyed} {na nb : Nat}
theorem HI.swap (h : HI key a b out na nb) : HI key b a out nb na:=⟨h.perm.trans List.perm_append_comm,h.so,h.lb,h.la⟩
theorem HI.pushA (h : HI key a b out na nb) (h1 : 1 ≤ na) (hi : na - 1 < a.size) (sa : So key a 0 a.size) (c : 0 < nb→kk key b (nb - 1) ≤ kk key a (na - 1)) : HI key a b (out.push a[na - 1]) (na - 1) nb:=by
 refine ⟨h.perm.pushA h1 hi,?_,fun x hx hl=>?_,fun x hx hl=>?_⟩
 ·rw [Array.toList_push]
  refine List.pairwise_append.mpr ⟨h.so,List.pairwise_singleton _ _,fun x hx y hy=>?_⟩
  rw [List.mem_singleton.mp hy,← bX (key:=key) hi]
  exact h.la x hx (by lia)
 ·rw [Array.toList_push] at hx
  have:=sa (na - 1 - 1) (na - 1) (by lia) (by lia) hi
  rcases List.mem_append.mp hx with z | z
  ·have:=h.la x z (by lia); lia
  ·rw [List.mem_singleton.mp z,← bX (key:=key) hi]; exact this
 ·rw [Array.toList_push] at hx
  rcases List.mem_append.mp hx with z | z
  ·exact h.lb x z hl
  ·rw [List.mem_singleton.mp z,← bX (key:=key) hi]; exact c hl
theorem HI.appA (h : HI key a b out na nb) (sa : So key a 0 a.size) (hn : na ≤ a.size) : ∀ (d k : Nat),na = k + d→(0 < nb→∀ i,k ≤ i→i < na→kk key b (nb - 1) ≤ kk key a i)→HI key a b (out ++ (a.extract k na).reverse) k nb
 | 0,k,e,_=>by
  have e' : a.extract k na = #[]:=by simp; lia
  have e2 : k = na:=by lia
  subst e2
  rw [e',Array.reverse_empty,Array.append_empty]; exact h
 | d + 1,k,e,c=>by
  have:=(HI.appA h sa hn d (k + 1) (by lia) fun hb i h1 h2=>c hb i (by lia) h2).pushA (by lia) (by lia) sa fun hb=>c hb _ (by lia) (by lia)
  rw [aCJ (by lia) hn,← Array.push_append]
  exact this
theorem HI.pushB (h : HI key a b out na nb) (h1 : 1 ≤ nb) (hi : nb - 1 < b.size) (sb : So key b 0 b.size) (c : 0 < na→kk key a (na - 1) ≤ kk key b (nb - 1)) : HI key a b (out.push b[nb - 1]) na (nb - 1):=(h.swap.pushA h1 hi sb c).swap
theorem HI.appB (h : HI key a b out na nb) (sb : So key b 0 b.size) (hn : nb ≤ b.size) (k : Nat) (hk : k ≤ nb) (c : 0 < na→∀ i,k ≤ i→i < nb→kk key a (na - 1) ≤ kk key b i) : HI key a b (out ++ (b.extract k nb).reverse) na k:=(h.swap.appA sb hn (nb - k) k (by lia) c).swap
theorem HI.first (h : HI key a b out na nb) (sa : So key a 0 a.size) (sb : So key b 0 b.size) (ha : na ≤ a.size) (hb : nb ≤ b.size) (c : 0 < nb→∀ i,i < na→kk key b (nb - 1) ≤ kk key a i) : Fi key a b (iY a b out na nb):=by
 have h1:=h.appA sa ha na 0 (by lia) fun z i _ hi=>c z i hi
 have h2:=h1.appB sb hb 0 (by lia) fun z=>by lia
 have e : iY a b out na nb = (out ++ (a.extract 0 na).reverse ++ (b.extract 0 nb).reverse).reverse:=by simp
 rw [e]
 refine ⟨?_,?_⟩
 ·have:=h2.perm
  unfold PH at this
  rw [List.drop_zero,List.drop_zero] at this
  rw [Array.perm_iff_toList_perm,Array.toList_reverse,Array.toList_append (xs:=a)]
  exact (List.reverse_perm _).trans this
 ·rw [Array.toList_reverse,List.pairwise_reverse]
  exact h2.so
theorem HI.done (h : HI key a b out na nb) (sa : So key a 0 a.size) (sb : So key b 0 b.size) (ha : na ≤ a.size) (hb : nb ≤ b.size) (c : 0 < na→∀ i,i < nb→kk key a (na - 1) ≤ kk key b i) : Fi key a b (hX a b out na nb):=by
 have:=h.swap.first sb sa hb ha c
 refine ⟨this.1.trans ?_,this.2⟩
 rw [Array.perm_iff_toList_perm,Array.toList_append,Array.toList_append]
 exact List.perm_append_comm
end
section
variable {prog : Program} {w : World} {A : Around} {E : Value→Shared→Prop} {s : Shared} {κ : SortKind} {a₀ : Array Keyed} {pd : Array (Nat × Nat × Nat)} {ar : Array Keyed} {key : Keyed→Int}
theorem Two.first {a b : Array Keyed} (T : Two key a₀ a b) {out : Array Keyed} {na nb : Nat} (h : HI key a b out na nb) (ha : na ≤ a.size) (hb : nb = 1) : Fi key a b (iY a b out na nb) :=
 h.first T.sa T.sb ha (by have:=T.b1; lia) fun _ i hi=>by
  have h0:=T.c0
  have h1:=T.sa 0 i (by lia) (by lia) (by lia)
  rw [show nb - 1 = 0 by lia]
  lia
theorem Two.doneH {a b : Array Keyed} (T : Two key a₀ a b) {out : Array Keyed} {na nb : Nat} (h : HI key a b out na nb) (ha : na ≤ a.size) (hb : nb ≤ b.size) (hz : na = 0∨nb = 0) : Fi key a b (hX a b out na nb) :=
 h.done T.sa T.sb ha hb fun z i hi=>by lia
def GH (κ : SortKind) (ar : Array Keyed) (pd : Array (Nat × Nat × Nat)) (key : Keyed→Int) (a b : Array Keyed) (n : Nat) (r : ForInStep HSt) (st : SortSt) : Prop:=SM κ ar pd st ∧
 ((∃ x c,r = .done (some x,c)∧Fi key a b x)∨∃ na nb out mg ac bc,(r = .done (none,na,nb,out,mg,ac,bc)∨r = .yield (none,na,nb,out,mg,ac,bc))∧HI key a b out na nb∧1 ≤ na∧2 ≤ nb∧na ≤ a.size∧nb ≤ b.size∧n + na + nb ≤ a.size + b.size)
theorem wG {st : SortSt} {a b out : Array Keyed} {na nb mg ac bc n : Nat} (T : Two key a₀ a b) (hB : SM κ ar pd st) (h : HI key a b out na nb) (la : 1 ≤ na) (lb : 2 ≤ nb) (ma : na ≤ a.size) (mb : nb ≤ b.size) (li : n + na + nb ≤ a.size + b.size) (c : kk key b (nb - 1) ≤ kk key a (na - 1)) :
  wpS (model prog w) A E s (hiC a b na nb out mg ac bc) (GH κ ar pd key a b n) st:=by
 unfold hiC
 refine wpS_bind (bN (getElem?_pos a (na - 1) (by lia)) ?_)
 have p:=h.pushA la (show na - 1 < a.size by lia) T.sa fun _=>c
 by_cases f : (na - 1 == 0) = true
 ·rw [if_pos f]; exact wpS_pure ⟨hB,.inl ⟨_,_,rfl,T.doneH p (by lia) (by lia) (.inl (by simpa using f))⟩⟩
 rw [if_neg f]
 have g : ¬ (na - 1 = 0):=by simpa using f
 split
 ·exact wpS_pure ⟨hB,.inr ⟨_,_,_,_,_,_,.inl rfl,p,by lia,by lia,by lia,by lia,by lia⟩⟩
 ·exact wpS_pure ⟨hB,.inr ⟨_,_,_,_,_,_,.inr rfl,p,by lia,by lia,by lia,by lia,by lia⟩⟩
theorem wH {st : SortSt} {a b out : Array Keyed} {na nb mg ac bc n : Nat} (hC : Cmp prog w A s κ a₀ key) (T : Two key a₀ a b) (hB : SM κ ar pd st) (h : HI key a b out na nb) (la : 1 ≤ na) (lb : 2 ≤ nb) (ma : na ≤ a.size) (mb : nb ≤ b.size) (li : n + na + nb ≤ a.size + b.size) (c : kk key a (na - 1) ≤ kk key b (nb - 1)) :
  wpS (model prog w) A E s (hiB a b na nb out mg ac bc) (GH κ ar pd key a b n) st:=by
 unfold hiB
 refine wpS_bind (bN (getElem?_pos b (nb - 1) (by lia)) ?_)
 have p:=h.pushB (by lia) (show nb - 1 < b.size by lia) T.sb fun _=>c
 by_cases f : (nb - 1 == 1) = true
 ·rw [if_pos f]; exact wpS_pure ⟨hB,.inl ⟨_,_,rfl,T.first p (by lia) (by simpa using f)⟩⟩
 rw [if_neg f]
 have g : ¬ (nb - 1 = 1):=by simpa using f
 refine wpS_bind (bN (getElem?_pos a (na - 1) (by lia)) ?_)
 refine wpS_bind (eQ hC hB.kind (T.ha _ (by simp)) T.hb (by lia) (by lia) (fun i j h1 h2 h3=>T.sb i j (by lia) h2 (by lia)) fun k hk q1 q2=>?_)
 rw [← bX (key:=key) (a:=a) (i:=na - 1) (by lia)] at q1 q2
 simp only [thr,if_true,Nat.zero_add] at q1 q2
 dsimp only
 by_cases kp : nb - 1 - k > 0
 ·rw [if_pos kp]
  have p2:=p.appB T.sb (by lia) k hk fun _ i h1 h2=>q2 i h1 h2
  by_cases f2 : (k == 1) = true
  ·rw [if_pos f2]; exact wpS_pure ⟨hB,.inl ⟨_,_,rfl,T.first p2 (by lia) (by simpa using f2)⟩⟩
  rw [if_neg f2]
  have g2 : ¬ (k = 1):=by simpa using f2
  by_cases f6 : (k == 0) = true
  ·rw [if_pos f6]; exact wpS_pure ⟨hB,.inl ⟨_,_,rfl,T.doneH p2 (by lia) (by lia) (.inr (by simpa using f6))⟩⟩
  rw [if_neg f6]
  have g6 : ¬ (k = 0):=by simpa using f6
  exact wG T hB p2 la (by lia) ma (by lia) (by lia) (by have:=q1 (k - 1) (by lia); lia)
 ·rw [if_neg kp]
  have e : k = nb - 1:=by lia
  subst e
  exact wG T hB p la (by lia) ma (by lia) (by lia) (by have:=q1 (nb - 1 - 1) (by lia); lia)
theorem aCK {st : SortSt} {a b out : Array Keyed} {na nb mg ac bc n : Nat} (hC : Cmp prog w A s κ a₀ key) (T : Two key a₀ a b) (hB : SM κ ar pd st) (h : HI key a b out na nb) (la : 1 ≤ na) (lb : 2 ≤ nb) (ma : na ≤ a.size) (mb : nb ≤ b.size) (li : n + na + nb ≤ a.size + b.size) :
  wpS (model prog w) A E s (hiA a b na nb out mg ac bc) (GH κ ar pd key a b n) st:=by
 unfold hiA
 rw [dP]
 refine wpS_bind (wpS_modify ?_)
 have hB2 : SM κ ar pd (SortSt.mk' (kindOf st) (arrOf st) (pendingOf st) mg (failedOf st)):=⟨hB.arr,hB.kind,hB.failed,hB.pend⟩
 refine wpS_bind (bN (getElem?_pos b (nb - 1) (by lia)) ?_)
 refine wpS_bind (eQ hC hB2.kind (T.hb _ (by simp)) T.ha (by lia) (by lia) (fun i j h1 h2 h3=>T.sa i j (by lia) h2 (by lia)) fun k hk q1 q2=>?_)
 rw [← bX (key:=key) (a:=b) (i:=nb - 1) (by lia)] at q1 q2
 simp only [thr,Bool.false_eq_true,if_false,Nat.zero_add] at q1 q2
 dsimp only
 by_cases kp : na - k > 0
 ·rw [if_pos kp]
  have p2:=h.appA T.sa ma (na - k) k (by lia) fun _ i h1 h2=>by have:=q2 i h1 h2; lia
  by_cases f4 : (k == 0) = true
  ·rw [if_pos f4]; exact wpS_pure ⟨hB2,.inl ⟨_,_,rfl,T.doneH p2 (by lia) (by lia) (.inl (by simpa using f4))⟩⟩
  rw [if_neg f4]
  have g4 : ¬ (k = 0):=by simpa using f4
  exact wH hC T hB2 p2 (by lia) lb (by lia) mb (by lia) (by have:=q1 (k - 1) (by lia); lia)
 ·rw [if_neg kp]
  have e : k = na:=by lia
  subst e
  exact wH hC T hB2 h la lb ma mb li (by have:=q1 (k - 1) (by lia); lia)
theorem vC {st : SortSt} {a b : Array Keyed} {Q : Array Keyed→SortSt→Prop} (hC : Cmp prog w A s κ a₀ key) (hB : SM κ ar pd st) (T : Two key a₀ a b)
  (h : ∀ out st',Fi key a b out→SM κ ar pd st'→Q out st') : wpS (model prog w) A E s (mP a b) Q st:=by
 have a1:=T.a1
 have b1:=T.b1
 rw [vB]
 refine wpS_bind (wpS_lift (wpAny_rule ⟨rfl,?_⟩))
 refine wpS_bind (bN (getElem?_pos a (a.size - 1) (by lia)) ?_)
 dsimp only
 have p0 : HI key a b #[a[a.size - 1]] (a.size - 1) b.size:=by
  have : HI key a b #[] a.size b.size:=⟨by unfold PH; simp,List.Pairwise.nil,fun x hx=>by simp at hx,fun x hx=>by simp at hx⟩
  exact this.pushA a1 (by lia) T.sa fun _=>T.c1 _ (by lia)
 by_cases e1 : (a.size - 1 == 0) = true
 ·rw [if_pos e1]
  exact wpS_pure (h _ _ (T.doneH p0 (by lia) (by lia) (.inl (by simpa using e1))) hB)
 rw [if_neg e1]
 have n1 : ¬ (a.size - 1 = 0):=by simpa using e1
 by_cases e2 : (b.size == 1) = true
 ·rw [if_pos e2]
  exact wpS_pure (h _ _ (T.first p0 (by lia) (by simpa using e2)) hB)
 rw [if_neg e2]
 have n2 : ¬ (b.size = 1):=by simpa using e2
 refine wpS_bind (wpS_get ?_)
 refine wpS_bind (wpS_mono (wpS_forRange (I:=fun i c st'=>SM κ ar pd st'∧∃ na nb out mg,c = (none,na,nb,out,mg)∧HI key a b out na nb∧1 ≤ na∧2 ≤ nb∧na ≤ a.size∧nb ≤ b.size∧i + na + nb ≤ a.size + b.size) (Q:=fun c st'=>SM κ ar pd st'∧∃ r c',c = (some r,c')∧Fi key a b r) ?_ ?_ ⟨hB,_,_,_,_,rfl,p0,by lia,by lia,by lia,by lia,by lia⟩) ?_)
 ·rintro i c st1 _ hi ⟨hB0,na,nb,out,mg,rfl,p1,la,lb,ma,mb,li⟩
  dsimp only
  refine wpS_bind (wpS_mono (wpS_forRange (I:=fun x c st'=>SM κ ar pd st'∧∃ na nb out ac bc,c = (none,na,nb,out,ac,bc)∧HI key a b out na nb∧1 ≤ na∧2 ≤ nb∧na ≤ a.size∧nb ≤ b.size∧i + x + na + nb ≤ a.size + b.size) (Q:=fun c st'=>SM κ ar pd st'∧((∃ r c',c = (some r,c')∧Fi key a b r)∨∃ na nb out ac bc,c = (none,na,nb,out,ac,bc)∧HI key a b out na nb∧1 ≤ na∧2 ≤ nb∧na ≤ a.size∧nb ≤ b.size∧i + 1 + na + nb ≤ a.size + b.size)) ?_ ?_ ⟨hB0,_,_,_,_,_,rfl,p1,la,lb,ma,mb,by lia⟩) ?_)
  ·rintro x c st2 _ hx ⟨hB1,na,nb,out,ac,bc,rfl,p1,la,lb,ma,mb,li⟩
   dsimp only
   refine wpS_bind (bN (getElem?_pos b (nb - 1) (by lia)) ?_)
   refine wpS_bind (bN (getElem?_pos a (na - 1) (by lia)) ?_)
   refine wpS_bind (kM hC hB1.kind (T.hb _ (by simp)) (T.ha _ (by simp)) ?_)
   rw [← bX (key:=key) (a:=b) (i:=nb - 1) (by lia),← bX (key:=key) (a:=a) (i:=na - 1) (by lia)]
   by_cases aw : kk key b (nb - 1) < kk key a (na - 1)
   ·rw [decide_eq_true aw]
    dsimp only
    rw [if_pos rfl]
    refine wpS_bind (bN (getElem?_pos a (na - 1) (by lia)) ?_)
    have p2:=p1.pushA (show 1 ≤ na by lia) (show na - 1 < a.size by lia) T.sa fun _=>by lia
    by_cases f1 : (na - 1 == 0) = true
    ·rw [if_pos f1]; exact wpS_pure ⟨hB1,.inl ⟨_,_,rfl,T.doneH p2 (by lia) (by lia) (.inl (by simpa using f1))⟩⟩
    rw [if_neg f1]
    have g1 : ¬ (na - 1 = 0):=by simpa using f1
    split
    ·exact wpS_pure ⟨hB1,.inr ⟨_,_,_,_,_,rfl,p2,by lia,by lia,by lia,by lia,by lia⟩⟩
    ·exact wpS_pure ⟨hB1,_,_,_,_,_,rfl,p2,by lia,by lia,by lia,by lia,by lia⟩
   ·rw [decide_eq_false aw]
    dsimp only
    rw [if_neg (by decide)]
    refine wpS_bind (bN (getElem?_pos b (nb - 1) (by lia)) ?_)
    have p2:=p1.pushB (show 1 ≤ nb by lia) (show nb - 1 < b.size by lia) T.sb fun _=>by lia
    by_cases f1 : (nb - 1 == 1) = true
    ·rw [if_pos f1]; exact wpS_pure ⟨hB1,.inl ⟨_,_,rfl,T.first p2 (by lia) (by simpa using f1)⟩⟩
    rw [if_neg f1]
    have g1 : ¬ (nb - 1 = 1):=by simpa using f1
    split
    ·exact wpS_pure ⟨hB1,.inr ⟨_,_,_,_,_,rfl,p2,by lia,by lia,by lia,by lia,by lia⟩⟩
    ·exact wpS_pure ⟨hB1,_,_,_,_,_,rfl,p2,by lia,by lia,by lia,by lia,by lia⟩
  ·rintro c st2 ⟨hB1,na,nb,out,ac,bc,rfl,p1,la,lb,ma,mb,li⟩
   exact ⟨hB1,.inr ⟨_,_,_,_,_,rfl,p1,la,lb,ma,mb,by lia⟩⟩
  ·rintro c st2 ⟨hB1,⟨r,c',rfl,hp⟩ | ⟨na,nb,out,ac,bc,rfl,p1,la,lb,ma,mb,li⟩⟩
   ·exact wpS_pure ⟨hB1,_,_,rfl,hp⟩
   ·dsimp only
    refine wpS_bind (wpS_lift (wpAny_rule ⟨rfl,?_⟩))
    refine wpS_bind (wpS_mono (wpS_forRange (I:=fun x c st'=>SM κ ar pd st'∧∃ na nb out mg ac bc,c = (none,na,nb,out,mg,ac,bc)∧HI key a b out na nb∧1 ≤ na∧2 ≤ nb∧na ≤ a.size∧nb ≤ b.size∧i + 1 + na + nb ≤ a.size + b.size) (Q:=fun c st'=>SM κ ar pd st'∧((∃ r c',c = (some r,c')∧Fi key a b r)∨∃ na nb out mg ac bc,c = (none,na,nb,out,mg,ac,bc)∧HI key a b out na nb∧1 ≤ na∧2 ≤ nb∧na ≤ a.size∧nb ≤ b.size∧i + 1 + na + nb ≤ a.size + b.size)) ?_ ?_ ⟨hB1,_,_,_,_,_,_,rfl,p1,la,lb,ma,mb,li⟩) ?_)
    ·rintro x c st2 _ hx ⟨hB1,na,nb,out,mg,ac,bc,rfl,p1,la,lb,ma,mb,li⟩
     change wpS (model prog w) A E s (if mg > 1 then hiA a b na nb out (mg - 1) ac bc else hiA a b na nb out mg ac bc) _ st2
     split <;>
     ·refine wpS_mono (aCK hC T hB1 p1 la lb ma mb li) ?_
      rintro r st' ⟨m,⟨x,c,rfl,hf⟩ | ⟨na,nb,out,mg,ac,bc,rfl | rfl,hh⟩⟩
      ·exact ⟨m,.inl ⟨_,_,rfl,hf⟩⟩
      ·exact ⟨m,.inr ⟨_,_,_,_,_,_,rfl,hh⟩⟩
      ·exact ⟨m,_,_,_,_,_,_,rfl,hh⟩
    ·rintro c st2 ⟨hB1,hh⟩
     exact ⟨hB1,.inr hh⟩
    ·rintro c st2 ⟨hB1,⟨r,c',rfl,hp⟩ | ⟨na,nb,out,mg,ac,bc,rfl,p1,la,lb,ma,mb,li⟩⟩
     ·exact wpS_pure ⟨hB1,_,_,rfl,hp⟩
     ·dsimp only
      rw [dP]
      refine wpS_bind (wpS_modify ?_)
      exact wpS_pure ⟨⟨hB1.arr,hB1.kind,hB1.failed,hB1.pend⟩,_,_,_,_,rfl,p1,la,lb,ma,mb,li⟩
 ·rintro c st1 ⟨hB0,na,nb,out,mg,rfl,p1,la,lb,ma,mb,li⟩
  lia
 ·rintro c st1 ⟨hB0,r,c',rfl,hp⟩
  exact wpS_pure (h r st1 hp hB0)
end
end PyProof.Rows
namespace PyProof.Rows
open PySem
abbrev Run:=Nat × Nat × Nat
def Runs (key : Keyed→Int) (a : Array Keyed) : List Run→Nat→Nat→Prop
 | [],s,e=>s = e
 | r :: rs,s,e=>r.1 = s∧1 ≤ r.2.1∧So key a s (s + r.2.1)∧Runs key a rs (s + r.2.1) e
section
variable {key : Keyed→Int} {a : Array Keyed}
theorem Runs.le : ∀ {l : List Run} {s e : Nat},Runs key a l s e→s + l.length ≤ e
 | [],_,_,h=>Nat.le_of_eq h
 | r :: rs,s,e,⟨_,h2,_,h3⟩=>by have:=h3.le; rw [List.length_cons]; lia
theorem So.keep {a a' : Array Keyed} {s e : Nat} (h : So key a s e) (k : ∀ i,s ≤ i→i < e→a'[i]? = a[i]?) : So key a' s e:=fun i j h1 h2 h3=>by
 rw [eF (k i h1 (by lia)),eF (k j (by lia) h3)]
 exact h i j h1 h2 h3
theorem Runs.keep {a' : Array Keyed} : ∀ {l : List Run} {s e : Nat},Runs key a l s e→(∀ i,s ≤ i→i < e→a'[i]? = a[i]?)→Runs key a' l s e
 | [],_,_,h,_=>h
 | r :: rs,s,e,⟨h1,h2,h3,h4⟩,k=>by
  have:=h4.le
  exact ⟨h1,h2,h3.keep fun i a b=>k i a (by lia),h4.keep fun i a b=>k i (by lia) b⟩
theorem Runs.two : ∀ {l : List Run} {s e i : Nat} {x y : Run},Runs key a l s e→l[i]? = some x→l[i + 1]? = some y →
  s ≤ x.1∧x.1 + x.2.1 = y.1∧y.1 + y.2.1 ≤ e∧1 ≤ x.2.1∧1 ≤ y.2.1∧So key a x.1 y.1∧So key a y.1 (y.1 + y.2.1)∧∀ p a',Out a a' x.1 (y.1 + y.2.1)→So key a' x.1 (y.1 + y.2.1)→Runs key a' ((l.set i (x.1,x.2.1 + y.2.1,p)).eraseIdx (i + 1)) s e
 | r :: q :: rs,s,e,0,x,y,⟨h1,h2,h3,h4,h5,h6,h7⟩,hx,hy=>by
  obtain rfl:=Option.some.inj hx
  obtain rfl:=Option.some.inj hy
  have:=h7.le
  rw [h1,h4]
  refine ⟨Nat.le_refl _,rfl,by lia,h2,h5,h3,h6,fun p a' o so=>⟨rfl,by show 1 ≤ r.2.1 + q.2.1; lia,?_,?_⟩⟩
  ·show So key a' s (s + (r.2.1 + q.2.1))
   rw [← Nat.add_assoc]; exact so
  ·show Runs key a' rs (s + (r.2.1 + q.2.1)) e
   rw [← Nat.add_assoc]; exact h7.keep fun i a b=>o i (.inr a)
 | r :: rs,s,e,i + 1,x,y,⟨h1,h2,h3,h4⟩,hx,hy=>by
  obtain ⟨a0,a1,a2,a3,a4,a5,a6,a7⟩:=Runs.two (i:=i) h4 hx hy
  exact ⟨by lia,a1,a2,a3,a4,a5,a6,fun p a' o so=>⟨h1,h2,h3.keep fun i a b=>o i (.inl (by lia)),a7 p a' o so⟩⟩
theorem Runs.push : ∀ {l : List Run} {s e n p : Nat},Runs key a l s e→1 ≤ n→So key a e (e + n)→Runs key a (l ++ [(e,n,p)]) s (e + n)
 | [],s,e,n,p,h,hn,so=>⟨h.symm,hn,by rw [show s = e from h]; exact so,by rw [show s = e from h]; rfl⟩
 | r :: rs,s,e,n,p,⟨h1,h2,h3,h4⟩,hn,so=>⟨h1,h2,h3,Runs.push h4 hn so⟩
theorem Runs.pw : ∀ {l : List Run} {s e : Nat} (i p : Nat),Runs key a l s e→Runs key a (l.modify i fun r=>(r.1,r.2.1,p)) s e
 | [],s,e,i,p,h=>by cases i <;> exact h
 | r :: rs,s,e,0,p,⟨h1,h2,h3⟩=>⟨h1,h2,h3⟩
 | r :: rs,s,e,i + 1,p,⟨h1,h2,h3,h4⟩=>⟨h1,h2,h3,Runs.pw i p h4⟩
end
theorem aCL {M : Model} {A : Around} {E : Value→Shared→Prop} {s : Shared} {σ : Type} {x : σ} {Q : PUnit→σ→Prop} {st : σ} (h : Q ⟨⟩ x) : wpS M A E s (set x : StateT σ Sem PUnit) Q st:=by
 unfold wpS; rw [StateT.run_set]; exact wpAny_pure ⟨rfl,h⟩
theorem vD (i : Nat) : mergeAt' i = (do
 let s ← get
 let (some (sa,na,power),some (sb,nb,_)):=((pendingOf s)[i]?,(pendingOf s)[i + 1]?) | unsupported "internal:list.sort.pending"
 set (setPending s (((pendingOf s).setIfInBounds i (sa,na + nb,power)).eraseIdxIfInBounds (i + 1)))
 let some k ← dA false (← elem' (arrOf s) sb) (arrOf s) sa na 0 | return false
 let (sa,na):=(sa + k,na - k)
 if na == 0 then return true
 let some nb ← dA true (← elem' (arrOf s) (sa + na - 1)) (arrOf s) sb nb (nb - 1) | return false
 if nb == 0 then return true
 let x:=(arrOf s).extract sa sb
 let y:=(arrOf s).extract sb (sb + nb)
 let merged ← if na ≤ nb then mN x y else mP x y
 modify fun s=>setArr s (merged.toList.zipIdx.foldl (fun a (p,j)=>a.setIfInBounds (sa + j) p) (arrOf s))
 return (failedOf (← get)).isNone):=rfl
theorem nY {sa : Nat} : ∀ (l : List Keyed) (k : Nat) (arr : Array Keyed),sa + k + l.length ≤ arr.size →
  ((l.zipIdx k).foldl (fun (a : Array Keyed) (x : Keyed × Nat)=>a.setIfInBounds (sa + x.2) x.1) arr).toList = arr.toList.take (sa + k) ++ l ++ arr.toList.drop (sa + k + l.length)
 | [],k,arr,_=>by simp
 | x :: l,k,arr,h=>by
  rw [List.length_cons] at h
  have hs : sa + k < arr.toList.length:=by rw [Array.length_toList]; lia
  rw [List.zipIdx_cons,List.foldl_cons,nY l (k + 1) _ (by rw [Array.size_setIfInBounds]; lia),Array.toList_setIfInBounds]
  dsimp only
  have e1 : (arr.toList.set (sa + k) x).take (sa + (k + 1)) = arr.toList.take (sa + k) ++ [x]:=by
   rw [← Nat.add_assoc,List.take_add_one,List.getElem?_set_self hs,List.take_set_of_le (Nat.le_refl _)]
   rfl
  have e2 : (arr.toList.set (sa + k) x).drop (sa + (k + 1) + l.length) = arr.toList.drop (sa + k + (x :: l).length):=by
   rw [List.drop_set_of_lt (by lia),List.length_cons]
   congr 1; lia
  rw [e1,e2,List.append_assoc,List.append_assoc,List.append_assoc]
  rfl
section
variable {prog : Program} {w : World} {A : Around} {E : Value→Shared→Prop} {s : Shared} {κ : SortKind} {a₀ : Array Keyed} {key : Keyed→Int}
theorem pG {a : Array Keyed} {i : Nat} : kk key a i = (a.toList[i]?.map key).getD 0:=by unfold kk; rw [Array.getElem?_toList]
theorem eV {a : Array Keyed} {i j k : Nat} (h : k < j - i) : kk key (a.extract i j) k = kk key a (i + k):=by
 rw [pG,pG,dQ,List.getElem?_take,if_pos h,List.getElem?_drop]
def SR (κ : SortKind) (a₀ : Array Keyed) (key : Keyed→Int) (lo : Nat) (st : SortSt) : Prop:=∃ pd,SQ κ a₀ pd st∧Runs key (arrOf st) pd.toList 0 lo∧lo ≤ a₀.size
theorem aCM {a a' : Array Keyed} {out : List Keyed} {sa k sb k2 e : Nat} (h1 : sa + k ≤ sb) (h2 : sb + k2 ≤ e) (he : e ≤ a.size) (hl : out.length = sb + k2 - (sa + k)) (wl : a'.toList = a.toList.take (sa + k) ++ out ++ a.toList.drop (sb + k2))
  (s1 : So key a sa sb) (s2 : So key a sb e) (so : out.Pairwise fun x y=>key x ≤ key y) {b t : Int} (g1 : ∀ i,sa ≤ i→i < sa + k→kk key a i ≤ b) (g2 : ∀ i,sb + k2 ≤ i→i < e→t ≤ kk key a i) (go : ∀ x∈out,b ≤ key x∧key x ≤ t) (gb : ∀ i,sb + k2 ≤ i→i < e→b ≤ kk key a i) :
  So key a' sa e∧Out a a' sa e:=by
 have tl : (a.toList.take (sa + k)).length = sa + k:=by rw [List.length_take,Array.length_toList]; lia
 have p1 : ∀ i,i < sa + k→a'[i]? = a[i]?:=fun i hi=>by
  rw [← Array.getElem?_toList,wl,List.append_assoc,List.getElem?_append_left (by rw [tl]; exact hi),List.getElem?_take,if_pos hi,Array.getElem?_toList]
 have p3 : ∀ i,sb + k2 ≤ i→a'[i]? = a[i]?:=fun i hi=>by
  rw [← Array.getElem?_toList,wl,List.getElem?_append_right (by rw [List.length_append,tl,hl]; lia),List.length_append,tl,hl,List.getElem?_drop,Array.getElem?_toList]
  congr 1; lia
 have p2 : ∀ i,sa + k ≤ i→i < sb + k2→∃ h : i - (sa + k) < out.length,kk key a' i = key out[i - (sa + k)]:=fun i hi hi'=>by
  have hh : i - (sa + k) < out.length:=by lia
  refine ⟨hh,?_⟩
  rw [pG,wl,List.append_assoc,List.getElem?_append_right (by rw [tl]; exact hi),tl,List.getElem?_append_left hh,List.getElem?_eq_getElem hh]; rfl
 refine ⟨fun i j hi hij hj=>?_,fun i hi=>?_⟩
 ·by_cases c1 : i < sa + k
  ·rw [eF (p1 i c1)]
   by_cases c2 : j < sa + k
   ·rw [eF (p1 j c2)]; exact s1 i j hi hij (by lia)
   ·have:=g1 i hi c1
    by_cases c3 : j < sb + k2
    ·obtain ⟨hh,e⟩:=p2 j (by lia) c3
     have:=(go _ (List.getElem_mem hh)).1
     rw [e]; lia
    ·rw [eF (p3 j (by lia))]
     have:=gb j (by lia) hj
     lia
  ·by_cases c2 : i < sb + k2
   ·obtain ⟨hh,ei⟩:=p2 i (by lia) c2
    rw [ei]
    by_cases c3 : j < sb + k2
    ·obtain ⟨hh',ej⟩:=p2 j (by lia) c3
     rw [ej]
     by_cases c4 : i = j
     ·subst c4; exact Int.le_refl _
     ·exact List.pairwise_iff_getElem.mp so _ _ hh hh' (by lia)
    ·rw [eF (p3 j (by lia))]
     have:=(go _ (List.getElem_mem hh)).2
     have:=g2 j (by lia) hj
     lia
   ·rw [eF (p3 i (by lia)),eF (p3 j (by lia))]
    exact s2 i j (by lia) hij hj
 ·rcases hi with hi | hi
  ·exact p1 i (by lia)
  ·exact p3 i (by lia)
theorem iR {st : SortSt} {i lo : Nat} {Q : Bool→SortSt→Prop} (hC : Cmp prog w A s κ a₀ key) (hB : SR κ a₀ key lo st) (hi : i + 1 < (pendingOf st).size) (h : ∀ st',SR κ a₀ key lo st'→Out (arrOf st) (arrOf st') 0 lo→(pendingOf st').size + 1 = (pendingOf st).size→Q true st') : wpS (model prog w) A E s (mergeAt' i) Q st:=by
 obtain ⟨pd,hq,hr,hlo⟩:=hB
 rw [hq.pend] at hi h
 rw [vD]
 refine wpS_bind (wpS_get ?_)
 have e1 : pd[i]? = some pd[i]:=getElem?_pos pd i (by lia)
 have e2 : pd[i + 1]? = some pd[i + 1]:=getElem?_pos pd (i + 1) hi
 obtain ⟨_,a1,a2,a3,a4,b1,b2,a5⟩:=hr.two (i:=i) (x:=pd[i]) (y:=pd[i + 1]) (by simpa using e1) (by simpa using e2)
 rw [hq.pend,e1,e2]
 revert a1 a2 a3 a4 a5 b1 b2
 generalize pd[i] = x
 generalize pd[i + 1] = y
 obtain ⟨sa,na,pw⟩:=x
 obtain ⟨sb,nb,pw2⟩:=y
 intro a1 a2 a3 a4 b1 b2 a5
 dsimp only at a1 a2 a3 a4 a5 b1 b2 ⊢
 obtain ⟨pd',hpd'⟩ : ∃ pd',pd' = (pd.setIfInBounds i (sa,na + nb,pw)).eraseIdxIfInBounds (i + 1):=⟨_,rfl⟩
 have hps : pd'.size + 1 = pd.size:=by
  rw [hpd',← Array.length_toList,Array.toList_eraseIdxIfInBounds,Array.toList_setIfInBounds,List.length_eraseIdx,List.length_set,if_pos (by simpa using hi),Array.length_toList]
  lia
 have hr' : ∀ a',Out (arrOf st) a' sa (sb + nb)→So key a' sa (sb + nb)→Runs key a' pd'.toList 0 lo:=by
  intro a' o so
  rw [hpd',Array.toList_eraseIdxIfInBounds,Array.toList_setIfInBounds]
  exact a5 pw a' o so
 refine wpS_bind (aCL ?_)
 rw [← hpd']
 have hq1 : SM κ (arrOf st) pd' (setPending st pd'):=⟨rfl,hq.kind,hq.failed,rfl⟩
 have hsz:=hq.size
 have hin : ∀ x∈(arrOf st).toList,x∈a₀.toList:=fun x hx=>(Array.perm_iff_toList_perm.mp hq.perm).mem_iff.mp hx
 have fin : ∀ st',SM κ (arrOf st) pd' st'→So key (arrOf st) sa (sb + nb)→Q true st':=fun st' m so=>h st' ⟨pd',⟨by rw [m.arr]; exact hq.perm,m.kind,m.failed,m.pend⟩,by rw [m.arr]; exact hr' _ Out.refl so,hlo⟩ (by rw [m.arr]; exact Out.refl) (by rw [m.pend]; exact hps)
 refine wpS_bind (bN (getElem?_pos (arrOf st) sb (by lia)) ?_)
 refine wpS_bind (eQ hC hq1.kind (hin _ (by simp)) hin (by lia) (by lia) (by rw [a1]; exact b1) fun k hk q1 q2=>?_)
 rw [← bX (key:=key) (a:=arrOf st) (i:=sb) (by lia)] at q1 q2
 simp only [thr,Bool.false_eq_true,if_false] at q1 q2
 dsimp only
 by_cases f1 : (na - k == 0) = true
 ·rw [if_pos f1]
  have g1 : na - k = 0:=by simpa using f1
  refine wpS_pure (fin _ hq1 fun i j h1 h2 h3=>?_)
  by_cases c1 : j < sb
  ·exact b1 i j h1 h2 c1
  ·by_cases c2 : i < sb
   ·have:=q1 (i - sa) (by lia)
    rw [show sa + (i - sa) = i by lia] at this
    have:=b2 sb j (by lia) (by lia) h3
    lia
   ·exact b2 i j (by lia) h2 h3
 rw [if_neg f1]
 have g1 : ¬ (na - k = 0):=by simpa using f1
 have el : sa + k + (na - k) - 1 = sb - 1:=by lia
 rw [el]
 refine wpS_bind (bN (getElem?_pos (arrOf st) (sb - 1) (by lia)) ?_)
 refine wpS_bind (eQ hC hq1.kind (hin _ (by simp)) hin (by lia) (by lia) b2 fun k2 hk2 q3 q4=>?_)
 rw [← bX (key:=key) (a:=arrOf st) (i:=sb - 1) (by lia)] at q3 q4
 simp only [thr,if_true] at q3 q4
 dsimp only
 by_cases f2 : (k2 == 0) = true
 ·rw [if_pos f2]
  have g2 : k2 = 0:=by simpa using f2
  refine wpS_pure (fin _ hq1 fun i j h1 h2 h3=>?_)
  by_cases c1 : j < sb
  ·exact b1 i j h1 h2 c1
  ·by_cases c2 : i < sb
   ·have:=q4 (j - sb) (by lia) (by lia)
    rw [show sb + (j - sb) = j by lia] at this
    have:=b1 i (sb - 1) h1 (by lia) (by lia)
    lia
   ·exact b2 i j (by lia) h2 h3
 rw [if_neg f2]
 have g2 : ¬ (k2 = 0):=by simpa using f2
 have sx : ((arrOf st).extract (sa + k) sb).size = sb - (sa + k):=by rw [Array.size_extract]; lia
 have sy : ((arrOf st).extract sb (sb + k2)).size = k2:=by rw [Array.size_extract]; lia
 have T : Two key a₀ ((arrOf st).extract (sa + k) sb) ((arrOf st).extract sb (sb + k2)):=by
  refine ⟨fun x hx=>hin x (by rw [dQ] at hx; exact List.mem_of_mem_drop (List.mem_of_mem_take hx)),fun x hx=>hin x (by rw [dQ] at hx; exact List.mem_of_mem_drop (List.mem_of_mem_take hx)),by lia,by lia,fun i j h1 h2 h3=>?_,fun i j h1 h2 h3=>?_,?_,fun i hi=>?_⟩
  ·rw [sx] at h3
   rw [eV (by lia),eV (by lia)]
   exact b1 _ _ (by lia) (by lia) (by lia)
  ·rw [sy] at h3
   rw [eV (by lia),eV (by lia)]
   exact b2 _ _ (by lia) (by lia) (by lia)
  ·rw [eV (by lia),eV (by lia)]
   have:=q2 k (by lia) (by lia)
   rw [Nat.add_zero,Nat.add_zero]
   lia
  ·rw [sy] at hi
   rw [sx,eV (by lia),eV (by lia)]
   have:=q3 i hi
   rw [show sa + k + (sb - (sa + k) - 1) = sb - 1 by lia]
   lia
 have last : ∀ (out : Array Keyed) (st' : SortSt),Fi key ((arrOf st).extract (sa + k) sb) ((arrOf st).extract sb (sb + k2)) out→SM κ (arrOf st) pd' st'→wpS (model prog w) A E s (do
   modify fun s=>setArr s (out.toList.zipIdx.foldl (fun a (p,j)=>a.setIfInBounds (sa + k + j) p) (arrOf s))
   return (failedOf (← get)).isNone) Q st':=by
  intro out st' hF m
  obtain ⟨hp,so⟩:=hF
  refine wpS_bind (wpS_modify ?_)
  refine wpS_bind (wpS_get (wpS_pure ?_))
  have osz : out.toList.length = sb - (sa + k) + k2:=by
   rw [Array.length_toList,hp.size_eq,Array.size_append,sx,sy]
  have wl:=nY (sa:=sa + k) out.toList 0 (arrOf st') (by rw [m.arr,osz]; lia)
  have e3 : sa + k + (sb - (sa + k) + k2) = sb + k2:=by lia
  rw [m.arr,osz,Nat.add_zero,e3] at wl
  have hp':=Array.perm_iff_toList_perm.mp hp
  rw [Array.toList_append] at hp'
  have pm : (out.toList.zipIdx.foldl (fun a (p,j)=>a.setIfInBounds (sa + k + j) p) (arrOf st)).Perm (arrOf st):=by
   rw [Array.perm_iff_toList_perm]
   refine (List.Perm.of_eq wl).trans ?_
   rw [dQ,dQ] at hp'
   refine ((hp'.append_left _).append_right _).trans ?_
   have e1 : (arrOf st).toList.drop (sa + k) = ((arrOf st).toList.drop (sa + k)).take (sb - (sa + k)) ++ (arrOf st).toList.drop sb:=sZ (by lia)
   have e2 : (arrOf st).toList.drop sb = ((arrOf st).toList.drop sb).take (sb + k2 - sb) ++ (arrOf st).toList.drop (sb + k2):=sZ (by lia)
   refine List.Perm.of_eq ?_
   conv=>rhs; rw [← List.take_append_drop (sa + k) (arrOf st).toList,e1,e2]
   simp only [List.append_assoc]
  have hf : (failedOf st').isNone = true:=by rw [m.failed]; rfl
  show Q (failedOf st').isNone _
  rw [hf]
  have go : ∀ x∈out.toList,kk key (arrOf st) sb ≤ key x∧key x ≤ kk key (arrOf st) (sb - 1):=by
   intro x hx
   rcases List.mem_append.mp (hp'.mem_iff.mp hx) with z | z
   ·obtain ⟨n,hn,rfl⟩:=List.mem_iff_getElem.mp z
    rw [Array.length_toList] at hn
    have e : key (((arrOf st).extract (sa + k) sb).toList[n]'(by rw [Array.length_toList]; exact hn)) = kk key (arrOf st) (sa + k + n):=by
     rw [← eV (i:=sa + k) (j:=sb) (by lia),bX hn,Array.getElem_toList]
    rw [e]
    have h1:=q2 (k + n) (by lia) (by lia)
    rw [← Nat.add_assoc] at h1
    have h2:=b1 (sa + k + n) (sb - 1) (by lia) (by lia) (by lia)
    lia
   ·obtain ⟨n,hn,rfl⟩:=List.mem_iff_getElem.mp z
    rw [Array.length_toList] at hn
    have e : key (((arrOf st).extract sb (sb + k2)).toList[n]'(by rw [Array.length_toList]; exact hn)) = kk key (arrOf st) (sb + n):=by
     rw [← eV (i:=sb) (j:=sb + k2) (by lia),bX hn,Array.getElem_toList]
    rw [e]
    have h1:=q3 n (by lia)
    have h2:=b2 sb (sb + n) (by lia) (by lia) (by lia)
    lia
  have bk:=aCM (key:=key) (a:=arrOf st) (a':=out.toList.zipIdx.foldl (fun a (p,j)=>a.setIfInBounds (sa + k + j) p) (arrOf st)) (out:=out.toList) (sa:=sa) (k:=k) (sb:=sb) (k2:=k2) (e:=sb + nb) (by lia) (by lia) (by lia) (by lia) wl b1 b2 so (b:=kk key (arrOf st) sb) (t:=kk key (arrOf st) (sb - 1))
   (fun i h1 h2=>by have:=q1 (i - sa) (by lia); rw [show sa + (i - sa) = i by lia] at this; lia) (fun i h1 h2=>by have:=q4 (i - sb) (by lia) (by lia); rw [show sb + (i - sb) = i by lia] at this; lia) go (fun i h1 h2=>b2 sb i (by lia) (by lia) h2)
  have ea : arrOf (setArr st' (out.toList.zipIdx.foldl (fun a (p,j)=>a.setIfInBounds (sa + k + j) p) (arrOf st'))) = out.toList.zipIdx.foldl (fun a (p,j)=>a.setIfInBounds (sa + k + j) p) (arrOf st):=by rw [m.arr]
  refine h _ ⟨pd',⟨by rw [ea]; exact pm.trans hq.perm,m.kind,m.failed,m.pend⟩,by rw [ea]; exact hr' _ bk.2 bk.1,hlo⟩ (by rw [ea]; exact bk.2.wide (by lia) (by lia)) (by show (pendingOf st').size + 1 = _; rw [m.pend]; exact hps)
 by_cases f3 : na - k ≤ k2
 ·rw [if_pos f3]
  exact wpS_bind (vA hC hq1 T fun out st' hp m=>last out st' hp m)
 ·rw [if_neg f3]
  exact wpS_bind (vC hC hq1 T fun out st' hp m=>last out st' hp m)
end
end PyProof.Rows
namespace PyProof.Rows
open PySem
section
variable {prog : Program} {w : World} {A : Around} {E : Value→Shared→Prop} {s : Shared} {κ : SortKind} {a₀ : Array Keyed} {key : Keyed→Int}
theorem vE {c : Prop} [Decidable c] {x : Nat} : (if c then x - 1 else x) ≤ x:=by split <;> lia
theorem SR.pw {lo : Nat} {st : SortSt} (h : SR κ a₀ key lo st) (i p : Nat) : SR κ a₀ key lo (setPending st ((pendingOf st).modify i fun r=>(r.1,r.2.1,p))):=by
 obtain ⟨pd,hq,hr,hl⟩:=h
 refine ⟨_,⟨hq.perm,hq.kind,hq.failed,rfl⟩,?_,hl⟩
 show Runs key (arrOf st) ((pendingOf st).modify i fun r=>(r.1,r.2.1,p)).toList 0 lo
 rw [hq.pend,Array.toList_modify]
 exact hr.pw i p
theorem SR.push {lo n : Nat} {st : SortSt} (h : SR κ a₀ key lo st) (h1 : 1 ≤ n) (hn : lo + n ≤ a₀.size) (so : So key (arrOf st) lo (lo + n)) : SR κ a₀ key (lo + n) (setPending st ((pendingOf st).push (lo,n,0))):=by
 obtain ⟨pd,hq,hr,hl⟩:=h
 refine ⟨_,⟨hq.perm,hq.kind,hq.failed,rfl⟩,?_,hn⟩
 show Runs key (arrOf st) ((pendingOf st).push (lo,n,0)).toList 0 (lo + n)
 rw [hq.pend,Array.toList_push]
 exact hr.push h1 so
theorem aAz {st : SortSt} {Q : Unit→SortSt→Prop} (hC : Cmp prog w A s κ a₀ key) (hp : (arrOf st).Perm a₀) (hk : kindOf st = κ) (hf : failedOf st = none) (hpd : pendingOf st = #[])
  (h : ∀ st',(arrOf st').Perm a₀→failedOf st' = none→So key (arrOf st') 0 a₀.size→Q () st') : wpS (model prog w) A E s sortRuns' Q st:=by
 have h0 : SR κ a₀ key 0 st:=⟨#[],⟨hp,hk,hf,hpd⟩,rfl,Nat.zero_le _⟩
 have hsz : (arrOf st).size = a₀.size:=hp.size_eq
 rw [sortRuns'_eq]
 refine wpS_bind (wpS_get ?_)
 dsimp only
 rw [hsz]
 refine wpS_bind (wpS_mono (wpS_forRange (I:=fun i c st'=>∃ lo,c = (none,lo)∧SR κ a₀ key lo st'∧i ≤ lo) (Q:=fun c st'=>∃ lo,c = (none,lo)∧SR κ a₀ key lo st'∧a₀.size ≤ lo) ?_ (fun c st' ⟨lo,a,b,c⟩=>⟨lo,a,b,by lia⟩) ⟨0,rfl,h0,by lia⟩) ?_)
 ·rintro i c st1 _ _ ⟨lo,rfl,hR,hil⟩
  by_cases e1 : lo ≥ a₀.size
  ·dsimp only
   rw [if_pos e1]; exact wpS_pure ⟨lo,rfl,hR,e1⟩
  have hlo : lo < a₀.size:=by lia
  obtain ⟨pd,hq,hr,hl⟩:=hR
  dsimp only
  rw [if_neg e1]
  refine wpS_bind (aAy hC (by lia) (by lia) hq fun n st2 hq2 n1 n2 so ou=>?_)
  have hr2 : Runs key (arrOf st2) pd.toList 0 lo:=hr.keep fun i _ h2=>ou i (.inl h2)
  dsimp only
  by_cases hm : n < minRun' a₀.size a₀.size 0
  ·rw [if_pos hm]
   refine wpS_bind (wpS_lift (wpAny_rule ⟨rfl,?_⟩))
   refine wpS_bind (aCH hC (by lia) (by lia) hq2 so fun st3 hq3 so3 ou3=>?_)
   simp only [Bool.not_true,Bool.false_eq_true,if_false]
   have hR3 : SR κ a₀ key lo st3:=⟨pd,hq3,hr2.keep fun i _ h2=>ou3 i (.inl h2),hl⟩
   refine wpS_bind (wpS_get ?_)
   cases hb : (pendingOf st3).back? with
   | none =>
    dsimp only
    exact wpS_bind (wpS_modify (wpS_pure ⟨_,rfl,SR.push hR3 (by lia) (by lia) so3,by lia⟩))
   | some r =>
    obtain ⟨s1,n1',pw1⟩:=r
    dsimp only
    refine wpS_bind (wpS_mono (wpS_forRange (I:=fun _ c st'=>c = (none,())∧SR κ a₀ key lo st'∧So key (arrOf st') lo (lo + min (a₀.size - lo) (minRun' a₀.size a₀.size 0))) (Q:=fun c st'=>c = (none,())∧SR κ a₀ key lo st'∧So key (arrOf st') lo (lo + min (a₀.size - lo) (minRun' a₀.size a₀.size 0))) ?_ (fun c st' hh=>hh) ⟨rfl,hR3,so3⟩) ?_)
    ·rintro x c st4 _ _ ⟨rfl,hR4,so4⟩
     refine wpS_bind (wpS_get ?_)
     by_cases hs : (pendingOf st4).size > 1
     ·rw [if_pos hs,getElem?_pos (pendingOf st4) ((pendingOf st4).size - 2) (by lia)]
      generalize (pendingOf st4)[(pendingOf st4).size - 2] = r4
      obtain ⟨_,_,older⟩:=r4
      dsimp only
      split
      ·exact wpS_pure ⟨rfl,hR4,so4⟩
      ·refine wpS_bind (iR hC hR4 (by lia) fun st5 hR5 ou _=>?_)
       simp only [Bool.not_true,Bool.false_eq_true,if_false]
       exact wpS_pure ⟨rfl,hR5,so4.keep fun i h1 _=>ou i (.inr h1)⟩
     ·rw [if_neg hs]; exact wpS_pure ⟨rfl,hR4,so4⟩
    ·rintro c st4 ⟨rfl,hR4,so4⟩
     dsimp only
     exact wpS_bind (wpS_modify (wpS_bind (wpS_modify (wpS_pure ⟨_,rfl,(hR4.pw _ _).push (by lia) (by lia) so4,by lia⟩))))
  ·rw [if_neg hm]
   have hR3 : SR κ a₀ key lo st2:=⟨pd,hq2,hr2,hl⟩
   refine wpS_bind (wpS_get ?_)
   cases hb : (pendingOf st2).back? with
   | none =>
    dsimp only
    exact wpS_bind (wpS_modify (wpS_pure ⟨_,rfl,SR.push hR3 n1 (by lia) so,by lia⟩))
   | some r =>
    obtain ⟨s1,n1',pw1⟩:=r
    dsimp only
    refine wpS_bind (wpS_mono (wpS_forRange (I:=fun _ c st'=>c = (none,())∧SR κ a₀ key lo st'∧So key (arrOf st') lo (lo + n)) (Q:=fun c st'=>c = (none,())∧SR κ a₀ key lo st'∧So key (arrOf st') lo (lo + n)) ?_ (fun c st' hh=>hh) ⟨rfl,hR3,so⟩) ?_)
    ·rintro x c st4 _ _ ⟨rfl,hR4,so4⟩
     refine wpS_bind (wpS_get ?_)
     by_cases hs : (pendingOf st4).size > 1
     ·rw [if_pos hs,getElem?_pos (pendingOf st4) ((pendingOf st4).size - 2) (by lia)]
      generalize (pendingOf st4)[(pendingOf st4).size - 2] = r4
      obtain ⟨_,_,older⟩:=r4
      dsimp only
      split
      ·exact wpS_pure ⟨rfl,hR4,so4⟩
      ·refine wpS_bind (iR hC hR4 (by lia) fun st5 hR5 ou _=>?_)
       simp only [Bool.not_true,Bool.false_eq_true,if_false]
       exact wpS_pure ⟨rfl,hR5,so4.keep fun i h1 _=>ou i (.inr h1)⟩
     ·rw [if_neg hs]; exact wpS_pure ⟨rfl,hR4,so4⟩
    ·rintro c st4 ⟨rfl,hR4,so4⟩
     dsimp only
     exact wpS_bind (wpS_modify (wpS_bind (wpS_modify (wpS_pure ⟨_,rfl,(hR4.pw _ _).push n1 (by lia) so4,by lia⟩))))
 ·rintro c st1 ⟨lo,rfl,hR,hlo⟩
  dsimp only
  refine wpS_bind (wpS_mono (wpS_forRange (I:=fun i c st'=>c = (none,())∧SR κ a₀ key lo st'∧(pendingOf st').size ≤ max 1 (a₀.size - i)) (Q:=fun c st'=>c = (none,())∧SR κ a₀ key lo st'∧(pendingOf st').size ≤ 1) ?_ ?_ ⟨rfl,hR,?_⟩) ?_)
  ·rintro x c st4 _ _ ⟨rfl,hR4,hz⟩
   refine wpS_bind (wpS_get ?_)
   by_cases hs : (pendingOf st4).size ≤ 1
   ·rw [if_pos hs]; exact wpS_pure ⟨rfl,hR4,hs⟩
   rw [if_neg hs]
   refine wpS_bind (iR hC hR4 ?_ fun st5 hR5 _ hz5=>?_)
   ·exact Nat.lt_of_le_of_lt (Nat.succ_le_succ vE) (show (pendingOf st4).size - 2 + 1 < (pendingOf st4).size by lia)
   ·simp only [Bool.not_true,Bool.false_eq_true,if_false]
    exact wpS_pure ⟨rfl,hR5,by lia⟩
  ·rintro c st4 ⟨rfl,hR4,hz⟩
   exact ⟨rfl,hR4,by lia⟩
  ·obtain ⟨pd,hq,hr,hl⟩:=hR
   have:=hr.le
   rw [hq.pend]
   simp at this
   lia
  ·rintro c st4 ⟨rfl,⟨pd,hq,hr,hl⟩,hz⟩
   refine wpS_pure (h _ hq.perm hq.failed ?_)
   rw [hq.pend] at hz
   have hz' : pd.toList.length ≤ 1:=by simpa using hz
   have e : lo = a₀.size:=by lia
   subst e
   revert hz'
   revert hr
   cases pd.toList with
   | nil=>intro hr _ i j _ _ hj; have : 0 = a₀.size:=hr; lia
   | cons r rs =>
    cases rs with
    | nil=>intro hr _; obtain ⟨_,_,so,e⟩:=hr; have e : 0 + r.2.1 = a₀.size:=e; rw [← e]; exact so
    | cons r2 rs=>intro _ hz; simp at hz
end
end PyProof.Rows
namespace L2
open PySem PySem.Spec PyProof.Rows PySem.W
def fK (h : Heap) (g : Addr→Int × Int) (vs : List Value) : Prop:=∀ v∈vs,∃ a o n t u,v = Value.ref a∧h.get? a = some o∧o.cls = .type "tuple" ∧ o.data = .seq #[.int (g a).1 t,.int (g a).2 u] n∧0 ≤ (g a).2∧(g a).2 < 64
def pk (u : Int × Int) : Int:=64 * u.1 + u.2
def kv (g : Addr→Int × Int) (v : Value) : Int:=match v with
 | .ref a=>pk (g a)
 | _=>0
theorem fK.tups {h : Heap} {g : Addr→Int × Int} : ∀ {vs : List Value},fK h g vs→∃ fs,KatTups h vs fs∧fs.length = vs.length∧∀ v∈fs,∃ n t,v = Value.int n t
 | [],_=>⟨[],trivial,rfl,fun v hv=>nomatch hv⟩
 | v :: vs,hp=>by
  obtain ⟨fs,k1,k2,k3⟩:=fK.tups (vs:=vs) fun b hb=>hp b (List.mem_cons_of_mem _ hb)
  obtain ⟨a,o,n,t,u,rfl,e,c,d,_⟩:=hp v List.mem_cons_self
  refine ⟨.int (g a).1 t :: fs,KatTups.cons e c d rfl k1,by simp [k2],fun v hv=>?_⟩
  rcases List.mem_cons.mp hv with z | z
  ·exact ⟨_,t,z⟩
  ·exact k3 v z
section
variable {prog : Program} {w : World} {A : Around} {E : Value→Shared→Prop} {s : Shared} {g : Addr→Int × Int}
theorem aAA {vs : List Value} (hp : fK s.heap g vs) : Cmp prog w A s (tuples' true) (vs.toArray.zip vs.toArray) (fun x=>kv g x.1):=by
 have mem : ∀ x∈(vs.toArray.zip vs.toArray).toList,x.1∈vs:=by
  intro x hx
  rw [Array.toList_zip] at hx
  exact (List.of_mem_zip hx).1
 intro x y hx hy Q E' q
 obtain ⟨a,o,n,t1,t2,e1,eo,_,ed,a1,a2⟩:=hp x.1 (mem x hx)
 obtain ⟨b,o',n',u1,u2,e2,eo',_,ed',b1,b2⟩:=hp y.1 (mem y hy)
 replace q : ∀ c,c = decide (kv g x.1 < kv g y.1)→Q c s:=fun c e=>e ▸ q
 rw [e1,e2] at q
 rw [e1,e2]
 replace q : ∀ c,c = decide (64 * (g a).1 + (g a).2 < 64 * (g b).1 + (g b).2)→Q c s:=q
 generalize (g a).1 = x1 at *
 generalize (g a).2 = x2 at *
 generalize (g b).1 = y1 at *
 generalize (g b).2 = y2 at *
 refine kat_lt eo ed eo' ed' (kat_cons (wpAny_eqBool_int ?_))
 by_cases h1 : x1 = y1
 ·rw [beq_iff_eq.mpr h1]
  refine kat_yes (kat_cons (wpAny_eqBool_int ?_))
  by_cases h2 : x2 = y2
  ·rw [beq_iff_eq.mpr h2]
   exact kat_yes (kat_nil (q _ (by
    have e : decide (64 * x1 + x2 < 64 * y1 + y2) = false:=decide_eq_false (by lia)
    rw [e]; rfl)))
  ·rw [beq_eq_false_iff_ne.mpr h2]
   exact kat_no (kat_one _ _ (lt_int (q _ (by congr 1; rw [eq_iff_iff]; lia))))
 ·rw [beq_eq_false_iff_ne.mpr h1]
  exact kat_no (oneLt_int (q _ (by congr 1; rw [eq_iff_iff]; lia)))
theorem aCN {vs : List Value} : ((vs.toArray.zip vs.toArray).map (·.2)).toList = vs:=by
 rw [Array.toList_map,Array.toList_zip]
 show (vs.zip vs).map (·.2) = vs
 rw [← List.unzip_snd,List.unzip_zip_right (Nat.le_refl _)]
theorem tD : ∀ {l : List Value} {p : Value × Value},p∈l.zip l→p.2 = p.1
 | x :: l,p,h=>by
  rw [List.zip_cons_cons] at h
  rcases List.mem_cons.mp h with z | z
  ·rw [z]
  ·exact tD z
theorem nZ {a : Addr} {vs : List Value} {n : Nat} {P : PySem.Fin→Shared→Prop} (ho : s.heap.get? a = some (seqObj "list" vs.toArray n)) (hp : fK s.heap g vs) (hz : vs.length ≤ 4096)
  (h : ∀ (out : Array Value),out.toList.Perm vs→out.toList.Pairwise (fun u v=>kv g u ≤ kv g v)→P (.done (.ret .none)) { s with heap:=sortedHeap s.heap a vs out }) :
  wpAny (model prog w) A (Builtin.«list.sort» ⟨[.ref a],[]⟩) P E s:=by
 rw [list_sort_plain]
 have ha : a < s.heap.objs.size:=Heap.lt_size ho
 have hsl : vs.toArray.size ≤ sizeLine:=by rw [List.size_toArray,sizeLine_eq]; lia
 refine wpAny_bind (listItems_at ho rfl ?_)
 refine wpAny_bind (listUpdate_at ho rfl ?_ hsl (Nat.zero_le _))
 obtain ⟨e1,ho1⟩ : ∃ e1,(s.heap.update a (Obj.mapSeq fun _=>#[])).get? a = some (seqObj "list" #[] e1):=⟨_,get?_update_seq ho (fun _=>#[])⟩
 refine wpAny_bind (seqEpoch_at ho1 rfl ?_)
 refine wpAny_bind (wpAny_newTuple ?_ (by show vs.length ≤ _; rw [sizeLine_eq]; lia))
 refine wpAny_bind (wpAny_newList ?_ (Nat.zero_le _))
 refine wpAny_holding ?_
 have ho6 : (((s.heap.update a (Obj.mapSeq fun _=>#[])).push (seqObj "tuple" vs.toArray 0)).push (seqObj "list" #[] 0)).get? a = some (seqObj "list" #[] e1):=by
  rw [Heap.get?_push_ne _ _ _ (by rw [size_push',Heap.size_update]; exact Nat.ne_of_lt (Nat.lt_succ_of_lt ha)),Heap.get?_push_ne _ _ _ (by rw [Heap.size_update]; exact Nat.ne_of_lt ha)]
  exact ho1
 have hp6 : fK (((s.heap.update a (Obj.mapSeq fun _=>#[])).push (seqObj "tuple" vs.toArray 0)).push (seqObj "list" #[] 0)) g vs:=by
  intro v hv
  obtain ⟨b,o,n,t,u,ev,e,c,d⟩:=hp v hv
  have hb : b < s.heap.objs.size:=Heap.lt_size e
  have hne : b ≠ a:=by
   rintro rfl
   rw [ho] at e; cases e
   exact absurd (Value.type.inj c) (by decide)
  refine ⟨b,o,n,t,u,ev,?_,c,d⟩
  rw [Heap.get?_push_ne _ _ _ (by rw [size_push',Heap.size_update]; exact Nat.ne_of_lt (Nat.lt_succ_of_lt hb)),Heap.get?_push_ne _ _ _ (by rw [Heap.size_update]; exact Nat.ne_of_lt hb),Heap.get?_update_ne _ _ _ _ hne]
  exact e
 show wpAny (model prog w) A _ P E { s with heap:=((s.heap.update a (Obj.mapSeq fun _=>#[])).push (seqObj "tuple" vs.toArray 0)).push (seqObj "list" #[] 0) }
 dsimp only
 have fin : ∀ st' : SortSt,(arrOf st').Perm (vs.toArray.zip vs.toArray)→So (fun x=>kv g x.1) (arrOf st') 0 (arrOf st').size→P (.done (.ret .none)) { s with heap:=sortedHeap s.heap a vs ((arrOf st').map (·.2)) }:=by
  intro st' hpm so
  refine h _ ?_ ?_
  ·have:=(Array.perm_iff_toList_perm.mp hpm).map (·.2)
   rw [← Array.toList_map,← Array.toList_map,aCN] at this
   exact this
  ·have same : ∀ p∈(arrOf st').toList,p.2 = p.1:=by
    intro p hp
    have:=(Array.perm_iff_toList_perm.mp hpm).mem_iff.mp hp
    rw [Array.toList_zip] at this
    exact tD this
   rw [Array.toList_map,List.pairwise_map]
   refine List.pairwise_iff_getElem.mpr fun i j hi hj hij=>?_
   rw [same _ (List.getElem_mem hi),same _ (List.getElem_mem hj)]
   have:=so i j (by lia) (by lia) (by simpa using hj)
   rw [bX (by simpa using hi),bX (by simpa using hj)] at this
   simpa using this
 have zsz : (vs.toArray.zip vs.toArray).size = vs.length:=by simp
 by_cases h2 : vs.toArray.size < 2
 ·rw [if_pos h2,if_pos h2]
  refine wpAny_bind (wpAny_pure ?_)
  rw [StateT.run_pure]
  refine wpAny_bind (wpAny_pure ?_)
  dsimp only
  refine wpAny_bind (seqEpoch_at ho6 rfl ?_)
  refine wpAny_bind (listUpdate_at ho6 rfl ?_ (Nat.zero_le _) (by show ((vs.toArray.zip vs.toArray).map (·.2)).size ≤ _; rw [Array.size_map,zsz,sizeLine_eq]; lia))
  simp only [bne_self_eq_false,Bool.false_eq_true,if_false]
  exact wpAny_pure (fin (SortSt.mk' general' (vs.toArray.zip vs.toArray) #[] 7 none) (Array.Perm.refl _) fun i j _ h3 h4=>by
   have h4 : j < (vs.toArray.zip vs.toArray).size:=h4
   rw [zsz] at h4
   rw [List.size_toArray] at h2
   rw [show i = j by lia]
   exact Int.le_refl _)
 ·rw [if_neg h2,if_neg h2]
  have hlen : 2 ≤ vs.length:=by rw [List.size_toArray] at h2; lia
  obtain ⟨fs,k1,k2,k3⟩:=hp6.tups
  refine wpAny_bind (kat_kind (T:=.type "int") k1 (by lia) (fun v hv=>?_) rfl ?_)
  ·obtain ⟨m,t,rfl⟩:=k3 v hv
   exact .now
  refine wpAny_bind (wpAny_mono (aAz (a₀:=vs.toArray.zip vs.toArray) (κ:=tuples' true) (st:=SortSt.mk' (tuples' true) (vs.toArray.zip vs.toArray) #[] 7 none)
   (Q:=fun _ st'=>(arrOf st').Perm (vs.toArray.zip vs.toArray)∧failedOf st' = none∧So (fun x=>kv g x.1) (arrOf st') 0 (vs.toArray.zip vs.toArray).size) (aAA hp6) (Array.Perm.refl _) rfl rfl rfl fun st' b1 b2 b3=>⟨b1,b2,b3⟩) ?_ fun _ _ e=>e)
  rintro ⟨⟨⟩,st'⟩ s' ⟨rfl,hpm,hf,so⟩
  dsimp only
  refine wpAny_bind (seqEpoch_at ho6 rfl ?_)
  refine wpAny_bind (listUpdate_at ho6 rfl ?_ (Nat.zero_le _) (by refine Nat.le_trans (Nat.le_of_eq ((Array.size_map ..).trans (hpm.size_eq.trans zsz))) ?_; rw [sizeLine_eq]; lia))
  rw [hf]
  simp only [bne_self_eq_false,Bool.false_eq_true,if_false]
  exact wpAny_pure (fin st' hpm (by rw [hpm.size_eq]; exact so))
theorem tE {l : Addr} {vs : List Value} {Q : Value→Shared→Prop} (hl : s.heap.IsList l vs.toArray) (hp : fK s.heap g vs) (hz : vs.length ≤ 4096)
  (h : ∀ (out : Array Value),out.toList.Perm vs→out.toList.Pairwise (fun u v=>kv g u ≤ kv g v)→Q (.ref (s.heap.objs.size + 1)) { s with heap:=sortedAll s.heap vs out }) :
  wpAny (model prog w) A (call (.builtin "sorted") [.ref l]) Q E s:=by
 have hsl : vs.length ≤ sizeLine:=by rw [sizeLine_eq]; lia
 refine Calls.call_function_entry kind_sorted plain_sorted entry_sorted (args_sorted1 _) ?_
 unfold Builtin.«sorted»
 refine wpAny_bind (m:=checkCount "sorted" 1 1 _) (wpAny_pure ?_)
 refine wpAny_bind (collect_list hl ?_ hsl)
 refine wpAny_bind (wpAny_newList ?_ hsl)
 have hsz : ((s.heap.push (seqObj "list" #[] 0)).update s.heap.objs.size (Obj.mapSeq (· ++ vs.toArray))).objs.size = s.heap.objs.size + 1:=by
  rw [Heap.size_update,size_push']
 have hoL : (((s.heap.push (seqObj "list" #[] 0)).update s.heap.objs.size (Obj.mapSeq (· ++ vs.toArray))).push (seqObj "list" vs.toArray 0)).get? (s.heap.objs.size + 1) = some (seqObj "list" vs.toArray 0):=by
  rw [← hsz]; exact Heap.get?_push_size _ rfl
 have hp2 : fK (((s.heap.push (seqObj "list" #[] 0)).update s.heap.objs.size (Obj.mapSeq (· ++ vs.toArray))).push (seqObj "list" vs.toArray 0)) g vs:=by
  intro v hv
  obtain ⟨b,o,n,t,u,ev,e,c,d⟩:=hp v hv
  have hb : b < s.heap.objs.size:=Heap.lt_size e
  refine ⟨b,o,n,t,u,ev,?_,c,d⟩
  rw [Heap.get?_push_ne _ _ _ (by rw [hsz]; exact Nat.ne_of_lt (Nat.lt_succ_of_lt hb)),Heap.get?_update_ne _ _ _ _ (Nat.ne_of_lt hb),Heap.get?_push_ne _ _ _ (Nat.ne_of_lt hb)]
  exact e
 show wpAny _ _ _ _ _ { s with heap:=((s.heap.push (seqObj "list" #[] 0)).update s.heap.objs.size (Obj.mapSeq (· ++ vs.toArray))).push (seqObj "list" vs.toArray 0) }
 rw [hsz]
 refine wpAny_bind (wpAny_holding (wpAny_call_entry slot_list_sort ⟨_,hoL,rfl⟩ entry_list_sort (nZ hoL hp2 hz fun out a1 a2=>⟨_,rfl,?_⟩) (args_list_sort _)))
 exact wpAny_pure ⟨_,rfl,h out a1 a2⟩
end
theorem mQ : ∀ {as : List Addr} {its : List Value},Vals (as.map V.ref) its→its = as.map Value.ref
 | [],_,r=>by cases r; rfl
 | a :: as,_,r=>by
  cases r with
  | cons r rr =>
   obtain rfl:=(show _ = Value.ref a from r)
   rw [mQ rr]; rfl
theorem qV : ∀ {as : List Addr},Vals (as.map V.ref) (as.map Value.ref)
 | []=>.nil
 | _ :: _=>.cons rfl qV
theorem aAB {as : List Addr} {vs : List Value} (h : vs.Perm (as.map Value.ref)) : ∃ as' : List Addr,vs = as'.map Value.ref∧as'.Perm as:=by
 let un : Value→Addr:=fun v=>match v with | .ref a=>a | _=>0
 refine ⟨vs.map un,?_,?_⟩
 ·rw [List.map_map]
  have : ∀ v∈vs,(Value.ref ∘ un) v = v:=by
   intro v hv
   obtain ⟨a,_,rfl⟩:=List.mem_map.mp (h.mem_iff.mp hv)
   rfl
  conv=>lhs; rw [← List.map_id vs]
  exact List.map_congr_left fun v hv=>(this v hv).symm
 ·have:=h.map un
  rw [List.map_map] at this
  have e : as.map (un ∘ Value.ref) = as:=by
   conv=>rhs; rw [← List.map_id as]
   exact List.map_congr_left fun a _=>rfl
  rw [e] at this
  exact this
def aAC (K : PySem.W.Frag) : List V→Hp→VK→Prop:=fun xs H Q=>∃ (l : Addr) (as : List Addr) (g : Addr→Int × Int),xs = [.ref l]∧SqL K H l (as.map V.ref)∧(∀ a∈as,SqT K H a [.int (g a).1,.int (g a).2]∧0 ≤ (g a).2∧(g a).2 < 64)∧as.length ≤ 4096 ∧
 ∀ (D : Addr) (as' : List Addr),H D = none→as'.Perm as→as'.Pairwise (fun a b=>pk (g a) ≤ pk (g b))→Q (.ref D) (upd H D (.lst (as'.map V.ref)))
theorem yC {X : Cx} : cI X (.builtin "sorted") (aAC X.K):=by
 intro pins s σ H xs us Q I r h
 obtain ⟨l,as,g,rfl,hl,hp,hz,q⟩:=h
 obtain ⟨u1,rfl,r1⟩:=r.one
 obtain rfl : u1 = Value.ref l:=r1
 obtain ⟨its,rv,pl,_⟩:=I.list hl
 have hits:=mQ rv
 subst hits
 have hpv : fK s.heap g (as.map Value.ref):=by
  intro v hv
  obtain ⟨a,ha,rfl⟩:=List.mem_map.mp hv
  obtain ⟨hxy,b1,b2⟩:=hp a ha
  obtain ⟨its,r,⟨o,e,c,n,d⟩,_⟩:=I.tuple hxy
  obtain ⟨u1,u2,rfl,r1,r2⟩:=r.two
  obtain ⟨t,rfl⟩:=r1
  obtain ⟨t',rfl⟩:=r2
  exact ⟨a,o,n,t,t',rfl,e,c,d,b1,b2⟩
 refine tE pl.isList hpv (by rw [List.length_map]; exact hz) fun out hperm hord=>?_
 obtain ⟨as',eo,pa⟩:=aAB hperm
 have hout : out = (as'.map Value.ref).toArray:=by rw [← eo]
 subst hout
 have ho : as'.Pairwise (fun a b=>pk (g a) ≤ pk (g b)):=by
  rw [eo,List.pairwise_map] at hord
  exact hord
 have sz1 : ((s.heap.push (seqObj "list" #[] 0)).update s.heap.objs.size (Obj.mapSeq (· ++ (as.map Value.ref).toArray))).objs.size = s.heap.objs.size + 1:=by rw [Heap.size_update,size_push']
 have k1 : ∀ b u,s.heap.get? b = some u→(((s.heap.push (seqObj "list" #[] 0)).update s.heap.objs.size (Obj.mapSeq (· ++ (as.map Value.ref).toArray))).push (seqObj "list" (as.map Value.ref).toArray 0)).get? b = some u:=fun b u e=>by
  have hb : b < s.heap.objs.size:=Heap.lt_size e
  rw [Heap.get?_push_ne _ _ _ (by rw [sz1]; exact Nat.ne_of_lt (Nat.lt_succ_of_lt hb)),Heap.get?_update_ne _ _ _ _ (Nat.ne_of_lt hb),Heap.get?_push_ne _ _ _ (Nat.ne_of_lt hb)]
  exact e
 have hoL : (((s.heap.push (seqObj "list" #[] 0)).update s.heap.objs.size (Obj.mapSeq (· ++ (as.map Value.ref).toArray))).push (seqObj "list" (as.map Value.ref).toArray 0)).get? (s.heap.objs.size + 1) = some (seqObj "list" (as.map Value.ref).toArray 0):=by
  rw [← sz1]; exact Heap.get?_push_size _ rfl
 have sz2 : (((s.heap.push (seqObj "list" #[] 0)).update s.heap.objs.size (Obj.mapSeq (· ++ (as.map Value.ref).toArray))).push (seqObj "list" (as.map Value.ref).toArray 0)).objs.size = s.heap.objs.size + 2:=by rw [size_push',sz1]
 show EP X pins σ Q (.ref (s.heap.objs.size + 1)) { s with heap:=sortedHeap (((s.heap.push (seqObj "list" #[] 0)).update s.heap.objs.size (Obj.mapSeq (· ++ (as.map Value.ref).toArray))).push (seqObj "list" (as.map Value.ref).toArray 0)) (s.heap.objs.size + 1) (as.map Value.ref) (as'.map Value.ref).toArray }
 revert k1 hoL sz2
 generalize ((s.heap.push (seqObj "list" #[] 0)).update s.heap.objs.size (Obj.mapSeq (· ++ (as.map Value.ref).toArray))).push (seqObj "list" (as.map Value.ref).toArray 0) = h1
 intro k1 hoL sz2
 obtain ⟨e1,ho1⟩ : ∃ e1,(h1.update (s.heap.objs.size + 1) (Obj.mapSeq fun _=>(#[] : Array Value))).get? (s.heap.objs.size + 1) = some (seqObj "list" #[] e1):=⟨_,get?_update_seq hoL (fun _=>#[])⟩
 have ho6 : (((h1.update (s.heap.objs.size + 1) (Obj.mapSeq fun _=>(#[] : Array Value))).push (seqObj "tuple" (as.map Value.ref).toArray 0)).push (seqObj "list" #[] 0)).get? (s.heap.objs.size + 1) = some (seqObj "list" #[] e1):=by
  rw [Heap.get?_push_ne _ _ _ (by rw [size_push',Heap.size_update,sz2]; exact Nat.ne_of_lt (Nat.lt_succ_of_lt (Nat.lt_succ_self _))),Heap.get?_push_ne _ _ _ (by rw [Heap.size_update,sz2]; exact Nat.ne_of_lt (Nat.lt_succ_self _))]
  exact ho1
 obtain ⟨e2,ho7⟩ : ∃ e2,(sortedHeap h1 (s.heap.objs.size + 1) (as.map Value.ref) (as'.map Value.ref).toArray).get? (s.heap.objs.size + 1) = some (seqObj "list" (as'.map Value.ref).toArray e2):=⟨_,get?_update_seq ho6 (fun _=>(as'.map Value.ref).toArray)⟩
 have keep : ∀ b u,s.heap.get? b = some u→(sortedHeap h1 (s.heap.objs.size + 1) (as.map Value.ref) (as'.map Value.ref).toArray).get? b = some u:=fun b u e=>by
  have hb : b < s.heap.objs.size:=Heap.lt_size e
  unfold sortedHeap
  rw [Heap.get?_update_ne _ _ _ _ (Nat.ne_of_lt (Nat.lt_succ_of_lt hb)),Heap.get?_push_ne _ _ _ (by rw [size_push',Heap.size_update,sz2]; exact Nat.ne_of_lt (Nat.lt_succ_of_lt (Nat.lt_succ_of_lt (Nat.lt_succ_of_lt hb)))),Heap.get?_push_ne _ _ _ (by rw [Heap.size_update,sz2]; exact Nat.ne_of_lt (Nat.lt_succ_of_lt (Nat.lt_succ_of_lt hb))),Heap.get?_update_ne _ _ _ _ (Nat.ne_of_lt (Nat.lt_succ_of_lt hb))]
  exact k1 b u e
 have hnone : s.heap.get? (s.heap.objs.size + 1) = none:=Heap.get?_none_of_le (by lia)
 refine ⟨.ref (s.heap.objs.size + 1),_,I.laidN (t':=s.toks) (o:=.lst (as'.map V.ref)) keep hnone ⟨?_,as'.map Value.ref,e2,qV,ho7⟩,rfl,q _ as' (I.hok.freshN hnone) pa ho⟩
 rw [List.length_map,pa.length_eq]
 exact Nat.le_trans hz (by decide)
end L2
namespace L2
open PySem PySem.Spec PyProof.Rows
section
variable {prog : Program} {w : World} {A : Around} {E : Value→Shared→Prop} {s : Shared}
end
end L2
namespace L2
open PySem PySem.Spec PyProof.Rows
section
variable {prog : Program} {w : World} {A : Around} {E : Value→Shared→Prop} {s : Shared}
end
section
variable {X : Cx}
end
end L2
namespace L2
open PySem PySem.Spec PyProof.Rows
section
variable {X : Cx}
theorem yD {s : Shared} {A : Around} {xs ys : List V} {us vs : List Value} (rx : Vals xs us) (ry : Vals ys vs) (fx : xs.all cS = true) (fy : ys.all cS = true) :
  ∀ j (h1 : j < us.toArray.size) (h2 : j < vs.toArray.size),SeqAt.EqAt A s us.toArray[j] vs.toArray[j] (eqV (xs.getD j .non) (ys.getD j .non)):=by
 intro j h1 h2
 have j1 : j < xs.length:=by rw [rx.length]; simpa using h1
 have j2 : j < ys.length:=by rw [ry.length]; simpa using h2
 have e1 : xs[j]? = some (xs.getD j .non):=by rw [List.getD_eq_getElem?_getD,List.getElem?_eq_getElem j1]; rfl
 have e2 : ys[j]? = some (ys.getD j .non):=by rw [List.getD_eq_getElem?_getD,List.getElem?_eq_getElem j2]; rfl
 obtain ⟨u,hu1,ru⟩:=rx.get e1
 obtain ⟨v,hv1,rv⟩:=ry.get e2
 have eu : us.toArray[j] = u:=by
  have : us[j]? = some us.toArray[j]:=by simp at h1 ⊢
  rw [hu1] at this; exact (Option.some.inj this).symm
 have ev : vs.toArray[j] = v:=by
  have : vs[j]? = some vs.toArray[j]:=by simp at h2 ⊢
  rw [hv1] at this; exact (Option.some.inj this).symm
 rw [eu,ev]
 exact nM ru rv (List.all_eq_true.mp fx _ (List.mem_of_getElem? e1)) (List.all_eq_true.mp fy _ (List.mem_of_getElem? e2))
theorem aBB {pins : List (Addr × Obj)} {σ : St} {H : Hp} {s : Shared} {A : Around} {a b : Addr} {xs ys : List V} (I : Inv X pins σ H s) (hu : A.units + 1 < cLine) (ha : SqT X.K H a xs) (hb : SqT X.K H b ys) (hl : xs.length = ys.length) (fx : xs.all cS = true) (fy : ys.all cS = true) :
  SeqAt.EqAt A s (.ref a) (.ref b) (dZ eqV xs ys):=by
 by_cases hab : a = b
 ·subst hab
  have e1:=I.tuple_inj ha hb
  subst e1
  have e2 : dZ eqV xs xs = true:=by
   clear ha hb hl fy
   induction xs with
   | nil=>rfl
   | cons x xs ih =>
    rw [List.all_cons,Bool.and_eq_true] at fx
    rw [dZ,ih fx.2,Bool.and_true]
    cases x <;> first | rfl | (show (_ == _) = true; simp) | exact absurd (show false = true from fx.1) Bool.false_ne_true
  rw [e2]
  exact SeqAt.EqAt.same _
 ·obtain ⟨us,r1,p1,_⟩:=I.tuple ha
  obtain ⟨vs,r2,p2,_⟩:=I.tuple hb
  have h:=SeqAt.RcAt.tuples (A:=A) (s:=s) (l:=a) (b:=b) (e:=fun i=>eqV (xs.getD i .non) (ys.getD i .non)) (show s.heap.IsTuple a us.toArray from p1) (show s.heap.IsTuple b vs.toArray from p2) (by lia)
   (yD r1 r2 fx fy)
  refine SeqAt.EqAt.of_refs hab ?_
  have er : ((List.range (min us.toArray.size vs.toArray.size)).all (fun i=>eqV (xs.getD i .non) (ys.getD i .non)) && us.toArray.size == vs.toArray.size) = dZ eqV xs ys:=by
   rw [List.size_toArray,List.size_toArray,← r1.length,← r2.length,← hl,Nat.min_self,beq_self_eq_true,Bool.and_true,iQ hl]
  rw [er] at h
  exact h
theorem yE {p q : Int × Int} : dZ eqV [.int p.1,.int p.2] [.int q.1,.int q.2] = decide (p = q):=by
 obtain ⟨a,b⟩:=p
 obtain ⟨c,d⟩:=q
 show ((a == c) && ((b == d) && true)) = decide ((a,b) = (c,d))
 by_cases h1 : a = c <;> by_cases h2 : b = d <;> simp [h1,h2]
def rInP (K : PySem.W.Frag) (neg : Bool) : R2:=fun x y H Q=>∃ (p l : Addr) (u : Int × Int) (as : List Addr) (ps : List (Int × Int)),x = .ref p∧y = .ref l∧SqT K H p [.int u.1,.int u.2]∧SqL K H l (as.map V.ref)∧as.length = ps.length∧(∀ i,i < ps.length→SqT K H (as.getD i 0) [.int (ps.getD i (0,0)).1,.int (ps.getD i (0,0)).2]) ∧
 Q (.bl (if neg then !decide (u∈ps) else decide (u∈ps))) H
open Classical in
theorem wI {pins : List (Addr × Obj)} {σ : St} {H : Hp} {s : Shared} (I : Inv X pins σ H s) {u : Int × Int} : ∀ {as : List Addr} {ps : List (Int × Int)},as.length = ps.length→(∀ i,i < ps.length→SqT X.K H (as.getD i 0) [.int (ps.getD i (0,0)).1,.int (ps.getD i (0,0)).2]) →
  ((as.map Value.ref).any fun v=>decide (∃ a,v = Value.ref a∧SqT X.K H a [.int u.1,.int u.2])) = decide (u∈ps)
 | [],[],_,_=>by simp
 | a :: as,p :: ps,hl,h=>by
  have ih:=wI I (u:=u) (as:=as) (ps:=ps) (by simpa using hl) (fun i hi=>h (i + 1) (by simpa using hi))
  have h0 : SqT X.K H a [.int p.1,.int p.2]:=h 0 (by simp)
  rw [List.map_cons,List.any_cons,ih]
  have e : decide (∃ b,Value.ref a = Value.ref b∧SqT X.K H b [.int u.1,.int u.2]) = decide (u = p):=by
   rw [Bool.eq_iff_iff,decide_eq_true_iff,decide_eq_true_iff]
   constructor
   ·rintro ⟨b,e,hb⟩
    cases e
    have:=I.tuple_inj h0 hb
    have e1 : p.1 = u.1:=V.int.inj (List.cons.inj this).1
    have e2 : p.2 = u.2:=V.int.inj (List.cons.inj (List.cons.inj this).2).1
    exact Prod.ext e1.symm e2.symm
   ·rintro rfl
    exact ⟨a,rfl,h0⟩
  rw [e]
  by_cases z : u = p
  ·simp [z]
  ·simp [z]
open Classical in
theorem aBC {pins : List (Addr × Obj)} {σ : St} {H : Hp} {s : Shared} {A : Around} (I : Inv X pins σ H s) (hu : A.units + 1 < cLine) {p : Addr} {u : Int × Int} (hp : SqT X.K H p [.int u.1,.int u.2]) {as : List Addr} {ps : List (Int × Int)} (hl : as.length = ps.length)
  (h : ∀ i,i < ps.length→SqT X.K H (as.getD i 0) [.int (ps.getD i (0,0)).1,.int (ps.getD i (0,0)).2]) : ∀ v∈as.map Value.ref,SeqAt.EqAt A s v (.ref p) (decide (∃ a,v = Value.ref a∧SqT X.K H a [.int u.1,.int u.2])):=by
 intro v hv
 obtain ⟨a,ha,rfl⟩:=List.mem_map.mp hv
 obtain ⟨i,hi,e⟩:=List.mem_iff_getElem.mp ha
 have hq:=h i (by lia)
 have ea : as.getD i 0 = a:=by rw [List.getD_eq_getElem?_getD,List.getElem?_eq_getElem hi]; exact e
 rw [ea] at hq
 have z:=aBB (A:=A) I hu hq hp rfl rfl rfl
 rw [yE] at z
 have e : decide (∃ b,Value.ref a = Value.ref b∧SqT X.K H b [.int u.1,.int u.2]) = decide (ps.getD i (0,0) = u):=by
  rw [Bool.eq_iff_iff,decide_eq_true_iff,decide_eq_true_iff]
  constructor
  ·rintro ⟨b,e,hb⟩
   cases e
   have:=I.tuple_inj hq hb
   exact Prod.ext (V.int.inj (List.cons.inj this).1) (V.int.inj (List.cons.inj (List.cons.inj this).2).1)
  ·intro e
   rw [← e]
   exact ⟨a,rfl,hq⟩
 rw [e]
 exact z
open Classical in
theorem qW (hu : X.A.units + 2 < cLine) : OpR X (compareOp .NotIn) (rInP X.K true):=by
 intro pins s σ H x y v u Q I rx ry h
 obtain ⟨p,l,w,as,ps,rfl,rfl,hp,hl,hlen,hps,q⟩:=h
 obtain rfl : v = Value.ref p:=rx
 obtain rfl : u = Value.ref l:=ry
 obtain ⟨its,r,pl,_⟩:=I.list hl
 have e:=mQ r
 subst e
 refine SeqAt.notIn_listAt (fun v=>decide (∃ a,v = Value.ref a∧SqT X.K H a [.int w.1,.int w.2])) pl.isList (fun y hy=>aBC I (by show X.A.units + 1 + 1 < cLine; lia) hp hlen hps y (by simpa using hy)) ⟨.bl _,H,I,rfl,?_⟩
 rw [show (as.map Value.ref).toArray.any (fun v=>decide (∃ a,v = Value.ref a∧SqT X.K H a [.int w.1,.int w.2])) = (as.map Value.ref).any (fun v=>decide (∃ a,v = Value.ref a∧SqT X.K H a [.int w.1,.int w.2])) by simp,wI I hlen hps]
 exact q
def aEw (K : PySem.W.Frag) (t : TGs) : TG:=fun v σ H Q=>∃ a x y,v = .ref a∧SqL K H a [x,y]∧t [x,y] σ H Q
theorem aCO {es : List Expr} {k : Nat} {t : TGs} {pos : Pos} (hc : X.calm = true) (h : PGs X es t) (hn : (assignEach es X.env).length = 2:=by rfl) (hst : (assignEach es X.env).findIdx? (·.1) = none:=by rfl) : PG X (.Tuple es k pos) (aEw X.K t):=by
 intro pins s σ H v u Q I r hw
 obtain ⟨a,x,y,e1,hq,hw⟩:=hw
 subst e1
 cases r
 obtain ⟨its,rv,ht,hz⟩:=I.list hq
 obtain ⟨u1,u2,rfl,r1,r2⟩:=rv.two
 have hlt : a ≠ s.heap.objs.size:=by
  obtain ⟨o,ho,_⟩:=ht.isList
  exact Nat.ne_of_lt (Heap.lt_size ho)
 rw [assign_Tuple]
 refine wpAny_bind (wpAny_standAt ?_)
 unfold unpack
 rw [hn,hst]
 refine wpAny_bind (wpAny_holding ?_)
 unfold unpackItems
 refine wpAny_bind ?_
 unfold notIterableAtAll
 refine wpAny_bind (wpAny_specialOf ht.isList.typeIs slot_list_iter.lookup (wpAny_pure ?_))
 simp only [Bool.false_eq_true,if_false]
 refine wpAny_bind (wpAny_holding (wpAny_pyIter_list ht.isList ?_))
 have hL0 : (s.heap.push { cls:=.type "list_iterator",data:=.fields #[.ref a,.int 0 0] }).IsList a [u1,u2].toArray:=ht.isList.push _
 refine wpAny_bind (wpAny_holding ?_)
 change wpAny _ _ (pyNext (.ref s.heap.objs.size) >>= _) _ _ _
 refine wpAny_bind (wpAny_pyNext_list_item (it:=s.heap.objs.size) (l:=a) (i:=0) (s:={ s with heap:=s.heap.push { cls:=.type "list_iterator",data:=.fields #[.ref a,.int 0 0] } }) ⟨_,Heap.get?_push_size _ rfl,rfl,rfl⟩ hL0 (x:=u1) rfl fun h1 it1 sb1=>?_)
 refine wpAny_bind (wpAny_holding ?_)
 change wpAny _ _ (pyNext (.ref s.heap.objs.size) >>= _) _ _ _
 have hL1 : h1.IsList a [u1,u2].toArray:=hL0.extBut sb1.extBut hlt
 refine wpAny_bind (wpAny_pyNext_list_item (s:={ s with heap:=h1 }) it1 hL1 (x:=u2) rfl fun h2 it2 sb2=>?_)
 have hL2 : h2.IsList a [u1,u2].toArray:=hL1.extBut sb2.extBut hlt
 refine wpAny_bind (wpAny_holding (wpAny_pure (wpAny_pure (wpAny_pure ?_))))
 rw [if_neg (by simp)]
 refine wpAny_bind (wpAny_holding (wpAny_pyNext_list_end (s:={ s with heap:=h2 }) (I.ok.hd hc) it2 hL2 rfl fun h3 eb3=>?_))
 simp only [Option.isSome_none,Bool.false_eq_true,if_false]
 refine wpAny_pure ?_
 have I1 : Inv X pins σ H { s with heap:=h3 }:=I.kept (t':=s.toks) fun b o e=>by
  have nb : b ≠ s.heap.objs.size:=Nat.ne_of_lt (Heap.lt_size e)
  exact eb3 b o nb (sb2.extBut b o nb (sb1.extBut b o nb (Heap.get?_push_of_some _ e)))
 exact h pins _ σ H [x,y] _ Q I1 (.cons r1 (.cons r2 .nil)) hw
end
end L2
namespace L2
open PySem PySem.Spec PyProof.Rows PySem.W
theorem vF {h : Heap} {vs : List Value} {out : Array Value} : (∃ e,(sortedAll h vs out).get? (h.objs.size + 1) = some (seqObj "list" out e))∧∀ b u,h.get? b = some u→(sortedAll h vs out).get? b = some u:=by
 have sz1 : ((h.push (seqObj "list" #[] 0)).update h.objs.size (Obj.mapSeq (· ++ vs.toArray))).objs.size = h.objs.size + 1:=by rw [Heap.size_update,size_push']
 have k1 : ∀ b u,h.get? b = some u→(((h.push (seqObj "list" #[] 0)).update h.objs.size (Obj.mapSeq (· ++ vs.toArray))).push (seqObj "list" vs.toArray 0)).get? b = some u:=fun b u e=>by
  have hb : b < h.objs.size:=Heap.lt_size e
  rw [Heap.get?_push_ne _ _ _ (by rw [sz1]; exact Nat.ne_of_lt (Nat.lt_succ_of_lt hb)),Heap.get?_update_ne _ _ _ _ (Nat.ne_of_lt hb),Heap.get?_push_ne _ _ _ (Nat.ne_of_lt hb)]
  exact e
 have hoL : (((h.push (seqObj "list" #[] 0)).update h.objs.size (Obj.mapSeq (· ++ vs.toArray))).push (seqObj "list" vs.toArray 0)).get? (h.objs.size + 1) = some (seqObj "list" vs.toArray 0):=by
  rw [← sz1]; exact Heap.get?_push_size _ rfl
 have sz2 : (((h.push (seqObj "list" #[] 0)).update h.objs.size (Obj.mapSeq (· ++ vs.toArray))).push (seqObj "list" vs.toArray 0)).objs.size = h.objs.size + 2:=by rw [size_push',sz1]
 unfold sortedAll
 revert k1 hoL sz2
 generalize ((h.push (seqObj "list" #[] 0)).update h.objs.size (Obj.mapSeq (· ++ vs.toArray))).push (seqObj "list" vs.toArray 0) = h1
 intro k1 hoL sz2
 obtain ⟨e1,ho1⟩ : ∃ e1,(h1.update (h.objs.size + 1) (Obj.mapSeq fun _=>(#[] : Array Value))).get? (h.objs.size + 1) = some (seqObj "list" #[] e1):=⟨_,get?_update_seq hoL (fun _=>#[])⟩
 have ho6 : (((h1.update (h.objs.size + 1) (Obj.mapSeq fun _=>(#[] : Array Value))).push (seqObj "tuple" vs.toArray 0)).push (seqObj "list" #[] 0)).get? (h.objs.size + 1) = some (seqObj "list" #[] e1):=by
  rw [Heap.get?_push_ne _ _ _ (by rw [size_push',Heap.size_update,sz2]; exact Nat.ne_of_lt (Nat.lt_succ_of_lt (Nat.lt_succ_self _))),Heap.get?_push_ne _ _ _ (by rw [Heap.size_update,sz2]; exact Nat.ne_of_lt (Nat.lt_succ_self _))]
  exact ho1
 refine ⟨⟨_,get?_update_seq ho6 (fun _=>out)⟩,fun b u e=>?_⟩
 have hb : b < h.objs.size:=Heap.lt_size e
 unfold sortedHeap
 rw [Heap.get?_update_ne _ _ _ _ (Nat.ne_of_lt (Nat.lt_succ_of_lt hb)),Heap.get?_push_ne _ _ _ (by rw [size_push',Heap.size_update,sz2]; exact Nat.ne_of_lt (Nat.lt_succ_of_lt (Nat.lt_succ_of_lt (Nat.lt_succ_of_lt hb)))),Heap.get?_push_ne _ _ _ (by rw [Heap.size_update,sz2]; exact Nat.ne_of_lt (Nat.lt_succ_of_lt (Nat.lt_succ_of_lt hb))),Heap.get?_update_ne _ _ _ _ (Nat.ne_of_lt (Nat.lt_succ_of_lt hb))]
 exact k1 b u e
end L2
namespace NetM
abbrev Ts:=List (Int × Int)
def T (ts : Ts) (a b : Nat) : Prop:=(((a : Nat) : Int),((b : Nat) : Int))∈ts
instance (ts : Ts) (a b : Nat) : Decidable (T ts a b):=inferInstanceAs (Decidable (_∈_))
def Walk (ts : Ts) : Nat→Nat→Nat→Prop
 | 0,a,b=>a = b
 | k + 1,a,b=>∃ c,Walk ts k a c∧T ts c b
theorem Walk.trans {ts : Ts} {k : Nat} {a b : Nat} (h : Walk ts k a b) : ∀ {l : Nat} {c : Nat},Walk ts l b c→Walk ts (k + l) a c
 | 0,_,e=>by cases e; exact h
 | l + 1,_,⟨d,w,t⟩=>⟨d,h.trans w,t⟩
theorem Walk.one {ts : Ts} {a b : Nat} (h : T ts a b) : Walk ts 1 a b:=⟨a,rfl,h⟩
theorem Walk.cons {ts : Ts} {k a b c : Nat} (h : T ts a b) (w : Walk ts k b c) : Walk ts (k + 1) a c:=by
 have:=(Walk.one h).trans w
 rwa [Nat.add_comm] at this
def lL (ts : Ts) (a b d : Nat) : Prop:=Walk ts d a b∧∀ k,Walk ts k a b→d ≤ k
theorem lL.uniq {ts : Ts} {a b d e : Nat} (h : lL ts a b d) (g : lL ts a b e) : d = e:=Nat.le_antisymm (h.2 _ g.1) (g.2 _ h.1)
open Classical in
noncomputable def far (ts : Ts) (a b : Nat) : Nat:=if h : ∃ d,lL ts a b d then h.choose else 0
theorem aDQ {ts : Ts} {a b d : Nat} (h : lL ts a b d) : far ts a b = d:=by
 unfold far
 have hx : ∃ d,lL ts a b d:=⟨d,h⟩
 rw [dif_pos hx]
 exact hx.choose_spec.uniq h
structure Fine (n : Nat) (ts : Ts) : Prop where
 n1 : 2 ≤ n
 n2 : n ≤ 32
 nd : ts.Nodup
 rg : ∀ t∈ts,(0 ≤ t.1∧t.1 < n)∧(0 ≤ t.2∧t.2 < n)
 ne : ∀ t∈ts,t.1 ≠ t.2
 bal : ∀ h : Int,(ts.filter fun t=>decide (t.1 = h)).length = (ts.filter fun t=>decide (t.2 = h)).length
 most : ∀ h : Int,(ts.filter fun t=>decide (t.1 = h)).length ≤ 8
 con : ∀ a b,a < n→b < n→∃ k,Walk ts k a b
theorem aAD {α : Type} (f : α→Int) : ∀ (l : List α) (n : Nat),(∀ x∈l,0 ≤ f x∧f x < n)→(∀ h : Int,(l.filter fun t=>decide (f t = h)).length ≤ 8)→l.length ≤ 8 * n:=by
 intro l n
 induction n generalizing l with
 | zero =>
  intro h _
  cases l with
  | nil=>simp
  | cons x xs=>have:=h x List.mem_cons_self; lia
 | succ n ih =>
  intro h h8
  have e : l.length = (l.filter fun t=>decide (f t = (n : Int))).length + (l.filter fun t=>!decide (f t = (n : Int))).length:=by
   induction l with
   | nil=>rfl
   | cons x xs ih2 =>
    have:=ih2 (fun y hy=>h y (List.mem_cons_of_mem _ hy)) (fun hh=>Nat.le_trans (by rw [List.filter_cons]; split <;> simp) (h8 hh))
    by_cases q : f x = (n : Int) <;> simp [List.filter_cons,q] <;> lia
  have i2:=ih (l.filter fun t=>!decide (f t = (n : Int))) (fun x hx=>by
   have a:=h x (List.mem_filter.mp hx |>.1)
   have b:=(List.mem_filter.mp hx).2
   simp at b
   lia) (fun hh=>by
   refine Nat.le_trans ?_ (h8 hh)
   exact (List.filter_sublist.filter _).length_le)
  have:=h8 (n : Int)
  lia
theorem Fine.len {n : Nat} {ts : Ts} (F : Fine n ts) : ts.length ≤ 256:=by
 have:=aAD (·.1) ts n (fun t ht=>(F.rg t ht).1) F.most
 have:=F.n2
 lia
theorem Fine.tlt {n : Nat} {ts : Ts} (F : Fine n ts) {a b : Nat} (h : T ts a b) : a < n∧b < n∧a ≠ b:=by
 have q:=F.rg _ h
 have q2:=F.ne _ h
 refine ⟨by have:=q.1; simp at this; lia,by have:=q.2; simp at this; lia,fun e=>q2 (by rw [e])⟩
def outN (n : Nat) (ts : Ts) (h : Nat) : List Nat:=((List.range n).map fun s=>(h + s) % n).filter fun o=>decide (T ts h o)
theorem hZ {n : Nat} {ts : Ts} (F : Fine n ts) {h o : Nat} (hh : h < n) : o∈outN n ts h↔T ts h o:=by
 unfold outN
 rw [List.mem_filter,decide_eq_true_eq]
 refine ⟨fun z=>z.2,fun z=>⟨?_,z⟩⟩
 obtain ⟨_,h2,_⟩:=F.tlt z
 refine List.mem_map.mpr ⟨if h ≤ o then o - h else o + n - h,List.mem_range.mpr (by split <;> lia),?_⟩
 split
 ·rw [show h + (o - h) = o by lia,Nat.mod_eq_of_lt h2]
 ·rw [show h + (o + n - h) = o + n by lia,Nat.add_mod_right,Nat.mod_eq_of_lt h2]
theorem aCP {n : Nat} {ts : Ts} (F : Fine n ts) {h o : Nat} (hh : h < n) (ho : o∈outN n ts h) : o < n:=(F.tlt ((hZ F hh).mp ho)).2.1
def key (n h o : Nat) : Int:=((o : Int) - (h : Int)) % (n : Int)
theorem iW {n h s : Nat} (hh : h < n) (hs : s < n) : key n h ((h + s) % n) = (s : Int):=by
 unfold key
 by_cases c : h + s < n
 ·rw [Nat.mod_eq_of_lt c,show (((h + s : Nat) : Int) - (h : Int)) = (s : Int) by lia]
  exact Int.emod_eq_of_lt (by lia) (by lia)
 ·have e : (h + s) % n = h + s - n:=by
   rw [Nat.mod_eq_sub_mod (by lia),Nat.mod_eq_of_lt (by lia)]
  rw [e,show ((((h + s - n : Nat)) : Int) - (h : Int)) = (s : Int) - (n : Int) by lia,Int.sub_emod_right]
  exact Int.emod_eq_of_lt (by lia) (by lia)
theorem vG {n : Nat} {ts : Ts} {h : Nat} (hh : h < n) : (outN n ts h).Pairwise fun a b=>key n h a < key n h b:=by
 unfold outN
 refine List.Pairwise.filter _ ?_
 refine List.pairwise_map.mpr ?_
 refine List.Pairwise.imp_of_mem ?_ (List.pairwise_lt_range (n:=n))
 intro a b ha hb hab
 rw [iW hh (List.mem_range.mp ha),iW hh (List.mem_range.mp hb)]
 lia
theorem mG {α : Type} {k : α→Int} : ∀ {a b : List α},a.Pairwise (fun x y=>k x < k y)→b.Pairwise (fun x y=>k x < k y)→(∀ x,x∈a↔x∈b)→a = b
 | [],[],_,_,_=>rfl
 | [],y :: ys,_,_,h=>absurd ((h y).mpr List.mem_cons_self) (by simp)
 | x :: xs,[],_,_,h=>absurd ((h x).mp List.mem_cons_self) (by simp)
 | x :: xs,y :: ys,ha,hb,h=>by
  obtain ⟨a1,a2⟩:=List.pairwise_cons.mp ha
  obtain ⟨b1,b2⟩:=List.pairwise_cons.mp hb
  have e : x = y:=by
   rcases List.mem_cons.mp ((h x).mp List.mem_cons_self) with z | z
   ·exact z
   ·rcases List.mem_cons.mp ((h y).mpr List.mem_cons_self) with z' | z'
    ·exact z'.symm
    ·have q1:=b1 x z
     have q2:=a1 y z'
     lia
  subst e
  refine congrArg (x :: ·) (mG a2 b2 fun z=>⟨fun hz=>?_,fun hz=>?_⟩)
  ·rcases List.mem_cons.mp ((h z).mp (List.mem_cons_of_mem _ hz)) with q | q
   ·subst q; exact absurd (a1 _ hz) (by lia)
   ·exact q
  ·rcases List.mem_cons.mp ((h z).mpr (List.mem_cons_of_mem _ hz)) with q | q
   ·subst q; exact absurd (b1 _ hz) (by lia)
   ·exact q
structure Bfs (n : Nat) (ts : Ts) (s i : Nat) (R : List Nat) (f : Nat→Nat) : Prop where
 nd : R.Nodup
 lt : ∀ x∈R,x < n
 st : s∈R
 z : f s = 0
 wk : ∀ x∈R,Walk ts (f x) s x
 up : R.Pairwise fun a b=>f a ≤ f b
 bd : ∀ u,R[i]? = some u→∀ x∈R,f x ≤ f u + 1
 cl : ∀ j u,j < i→R[j]? = some u→∀ v,T ts u v→v∈R∧f v ≤ f u + 1
theorem Bfs.start {n : Nat} {ts : Ts} {s : Nat} (hs : s < n) : Bfs n ts s 0 [s] (fun _=>0) :=
 ⟨by simp,fun x hx=>by simp at hx; lia,by simp,rfl,fun x hx=>by simp at hx; subst hx; rfl,by simp,fun u _ x _=>by lia,fun j u h=>absurd h (by lia)⟩
def put (f : Nat→Nat) (v k : Nat) : Nat→Nat:=fun y=>if y = v then k else f y
theorem iA {f : Nat→Nat} {v k : Nat} : put f v k v = k:=by simp [put]
theorem dS {f : Nat→Nat} {v k x : Nat} (h : x ≠ v) : put f v k x = f x:=by simp [put,h]
theorem Bfs.add {n : Nat} {ts : Ts} {s i u v : Nat} {R : List Nat} {f : Nat→Nat} (B : Bfs n ts s i R f) (hu : R[i]? = some u) (hv : v < n) (t : T ts u v) (hn : v ∉ R) : Bfs n ts s i (R ++ [v]) (put f v (f u + 1)):=by
 have hur : u∈R:=List.mem_of_getElem? hu
 have nv : ∀ x∈R,x ≠ v:=fun x hx e=>hn (e ▸ hx)
 have hi : i < R.length:=(List.getElem?_eq_some_iff.mp hu).1
 refine ⟨?_,fun x hx=>?_,List.mem_append_left _ B.st,by rw [dS (nv s B.st)]; exact B.z,fun x hx=>?_,?_,fun w hw x hx=>?_,fun j w hj hw x hx=>?_⟩
 ·rw [List.nodup_append]
  exact ⟨B.nd,by simp,fun a ha b hb e=>by simp at hb; subst hb; exact hn (e ▸ ha)⟩
 ·rcases List.mem_append.mp hx with z | z
  ·exact B.lt x z
  ·simp at z; lia
 ·rcases List.mem_append.mp hx with z | z
  ·rw [dS (nv x z)]; exact B.wk x z
  ·simp at z; subst z
   rw [iA]
   exact ⟨u,B.wk u hur,t⟩
 ·rw [List.pairwise_append]
  refine ⟨B.up.imp_of_mem fun {a b} ha hb h=>by rw [dS (nv a ha),dS (nv b hb)]; exact h,by simp,fun a ha b hb=>?_⟩
  simp at hb; subst hb
  rw [dS (nv a ha),iA]
  exact B.bd u hu a ha
 ·have hw' : w = u:=by
   rw [List.getElem?_append_left hi,hu] at hw
   exact (Option.some.inj hw).symm
  subst hw'
  rw [dS (nv w hur)]
  rcases List.mem_append.mp hx with z | z
  ·rw [dS (nv x z)]; exact B.bd w hu x z
  ·simp at z; subst z; rw [iA]; exact Nat.le_refl _
 ·rw [List.getElem?_append_left (by lia)] at hw
  obtain ⟨a,b⟩:=B.cl j w hj hw x hx
  refine ⟨List.mem_append_left _ a,?_⟩
  rw [dS (nv x a),dS (nv w (List.mem_of_getElem? hw))]
  exact b
theorem Bfs.next {n : Nat} {ts : Ts} {s i u : Nat} {R : List Nat} {f : Nat→Nat} (B : Bfs n ts s i R f) (hu : R[i]? = some u) (h : ∀ v,T ts u v→v∈R∧f v ≤ f u + 1) : Bfs n ts s (i + 1) R f:=by
 refine ⟨B.nd,B.lt,B.st,B.z,B.wk,B.up,fun w hw x hx=>?_,fun j w hj hw v hv=>?_⟩
 ·have h1:=B.bd u hu x hx
  have h2 : f u ≤ f w:=by
   have hi : i < R.length:=(List.getElem?_eq_some_iff.mp hu).1
   have hi' : i + 1 < R.length:=(List.getElem?_eq_some_iff.mp hw).1
   have:=List.pairwise_iff_getElem.mp B.up i (i + 1) hi hi' (by lia)
   rw [List.getElem?_eq_getElem hi] at hu
   rw [List.getElem?_eq_getElem hi'] at hw
   rw [Option.some.inj hu,Option.some.inj hw] at this
   exact this
  lia
 ·by_cases e : j = i
  ·subst e
   rw [hu] at hw
   cases hw
   exact h v hv
  ·exact B.cl j w (by lia) hw v hv
theorem iB : ∀ {n : Nat} {R : List Nat},R.Nodup→(∀ x∈R,x < n)→R.length ≤ n:=by
 intro n R hn hl
 have key : ∀ (a b : List Nat),a.Nodup→(∀ x∈a,x∈b)→a.length ≤ b.length:=by
  intro a
  induction a with
  | nil=>intro b _ _; exact Nat.zero_le _
  | cons x xs ih =>
   intro b hn hs
   obtain ⟨h1,h2⟩:=List.nodup_cons.mp hn
   have hx : x∈b:=hs x List.mem_cons_self
   have:=ih (b.erase x) h2 fun y hy=>(List.mem_erase_of_ne (fun (e : y = x)=>h1 (e ▸ hy))).mpr (hs y (List.mem_cons_of_mem _ hy))
   rw [List.length_erase_of_mem hx] at this
   have : 0 < b.length:=List.length_pos_of_mem hx
   rw [List.length_cons]
   lia
 have:=key R (List.range n) hn fun x hx=>List.mem_range.mpr (hl x hx)
 rwa [List.length_range] at this
theorem Bfs.done {n : Nat} {ts : Ts} {s i : Nat} {R : List Nat} {f : Nat→Nat} (B : Bfs n ts s i R f) (F : Fine n ts) (hi : R.length ≤ i) {x : Nat} (hx : x < n) : x∈R∧f x = far ts s x:=by
 have cl : ∀ u∈R,∀ v,T ts u v→v∈R∧f v ≤ f u + 1:=fun u hu v hv=>by
  obtain ⟨j,hj,e⟩:=List.mem_iff_getElem.mp hu
  exact B.cl j u (by lia) (by rw [List.getElem?_eq_getElem hj,e]) v hv
 have walk : ∀ k x,Walk ts k s x→x∈R∧f x ≤ k:=by
  intro k
  induction k with
  | zero=>intro x e; cases e; exact ⟨B.st,by rw [B.z]; exact Nat.le_refl _⟩
  | succ k ih =>
   rintro x ⟨c,w,t⟩
   obtain ⟨c1,c2⟩:=ih c w
   obtain ⟨d1,d2⟩:=cl c c1 x t
   exact ⟨d1,by lia⟩
 obtain ⟨k,w⟩:=F.con s x (B.lt s B.st) hx
 obtain ⟨m,_⟩:=walk k x w
 exact ⟨m,(aDQ ⟨B.wk x m,fun k w=>(walk k x w).2⟩).symm⟩
end NetM
namespace NetM
theorem Walk.mono {ts ts' : Ts} (h : ∀ t∈ts,t∈ts') : ∀ {k a b : Nat},Walk ts k a b→Walk ts' k a b
 | 0,_,_,e=>e
 | _ + 1,_,_,⟨c,w,t⟩=>⟨c,w.mono h,h _ t⟩
structure Pre (n : Nat) (ts : Ts) : Prop where
 nd : ts.Nodup
 rg : ∀ t∈ts,(0 ≤ t.1∧t.1 < n)∧(0 ≤ t.2∧t.2 < n)
 ne : ∀ t∈ts,t.1 ≠ t.2
 bal : ∀ h : Int,(ts.filter fun t=>decide (t.1 = h)).length = (ts.filter fun t=>decide (t.2 = h)).length
 most : ∀ h : Int,(ts.filter fun t=>decide (t.1 = h)).length ≤ 8
theorem Fine.pre {n : Nat} {ts : Ts} (F : Fine n ts) : Pre n ts:=⟨F.nd,F.rg,F.ne,F.bal,F.most⟩
theorem Pre.fine {n : Nat} {ts : Ts} (P : Pre n ts) (n1 : 2 ≤ n) (n2 : n ≤ 32) (c : ∀ a b,a < n→b < n→∃ k,Walk ts k a b) : Fine n ts:=⟨n1,n2,P.nd,P.rg,P.ne,P.bal,P.most,c⟩
theorem Fine.perm {n : Nat} {ts ts' : Ts} (F : Fine n ts) (p : ts'.Perm ts) : Fine n ts' :=
  ⟨F.n1, F.n2, p.nodup_iff.mpr F.nd, fun t ht => F.rg t (p.mem_iff.mp ht), fun t ht => F.ne t (p.mem_iff.mp ht), fun h => by rw [(p.filter _).length_eq, (p.filter _).length_eq]; exact F.bal h,
   fun h => by rw [(p.filter _).length_eq]; exact F.most h, fun a b ha hb => let ⟨k, w⟩ := F.con a b ha hb; ⟨k, w.mono fun t ht => p.mem_iff.mpr ht⟩⟩
theorem Fine.app {n : Nat} {ts us : Ts} (F : Fine n ts) (P : Pre n (ts ++ us)) : Fine n (ts ++ us) :=
 P.fine F.n1 F.n2 fun a b ha hb=>let ⟨k,w⟩:=F.con a b ha hb; ⟨k,w.mono fun t ht=>List.mem_append_left _ ht⟩
def pk (c k : Nat) : Nat:=if k = 0 then c - 1 else k - 1
abbrev ci (x : Nat) : Int:=(x : Int)
def cyc (xs : List Nat) : Ts:=(List.range xs.length).map fun k=>(ci (xs.getD (pk xs.length k) 0),ci (xs.getD k 0))
theorem cQ {xs : List Nat} {k : Nat} (h : k < xs.length) : xs.getD k 0 = xs[k]:=by rw [List.getD_eq_getElem?_getD,List.getElem?_eq_getElem h]; rfl
theorem wJ (xs : List Nat) : (cyc xs).map (·.2) = xs.map ci:=by
 unfold cyc
 rw [List.map_map]
 apply List.ext_getElem
 ·simp
 ·intro i h1 h2
  simp only [List.getElem_map,List.getElem_range,Function.comp]
  rw [cQ (by simpa using h2)]
theorem wK (xs : List Nat) : ((cyc xs).map (·.1)).Perm (xs.map ci):=by
 cases hx : xs with
 | nil=>exact List.Perm.refl _
 | cons y ys =>
  rw [← hx]
  have hl : xs.length = ys.length + 1:=by rw [hx]; rfl
  have e : (cyc xs).map (·.1) = ci (xs.getD (xs.length - 1) 0) :: (xs.take (xs.length - 1)).map ci:=by
   unfold cyc
   rw [List.map_map]
   apply List.ext_getElem
   ·simp; lia
   ·intro i h1 h2
    simp only [List.getElem_map,List.getElem_range,Function.comp]
    cases i with
    | zero=>rfl
    | succ i =>
     have hi : i + 1 < xs.length:=by simpa using h1
     simp only [List.getElem_cons_succ,List.getElem_map,List.getElem_take]
     unfold pk
     rw [if_neg (by lia),show i + 1 - 1 = i by lia,cQ (by lia)]
  rw [e]
  have : xs.map ci = (xs.take (xs.length - 1)).map ci ++ [ci (xs.getD (xs.length - 1) 0)]:=by
   conv=>lhs; rw [← List.take_append_drop (xs.length - 1) xs]
   rw [List.map_append]
   congr 1
   rw [List.drop_eq_getElem_cons (by lia),List.drop_eq_nil_of_le (by lia),cQ (by lia)]
   rfl
  rw [this]
  exact (List.perm_append_singleton _ _).symm
theorem iC (ts : Ts) (h : Int) : (ts.filter fun t=>decide (t.1 = h)).length = (ts.map (·.1)).count h:=by
 induction ts with
 | nil=>rfl
 | cons t ts ih=>by_cases e : t.1 = h <;> simp [List.filter_cons,List.count_cons,e,ih]
theorem mR (ts : Ts) (h : Int) : (ts.filter fun t=>decide (t.2 = h)).length = (ts.map (·.2)).count h:=by
 induction ts with
 | nil=>rfl
 | cons t ts ih=>by_cases e : t.2 = h <;> simp [List.filter_cons,List.count_cons,e,ih]
theorem tG {xs : List Nat} (h : xs.Nodup) : (xs.map ci).Nodup:=by
 refine List.pairwise_map.mpr (h.imp fun {a b} hab e=>hab ?_)
 exact Int.ofNat.inj e
theorem kO {α β : Type} {f : α→β} : ∀ {l : List α},(l.map f).Nodup→l.Nodup
 | [],_=>List.nodup_nil
 | a :: l,h=>by
  rw [List.map_cons] at h
  obtain ⟨h1,h2⟩:=List.nodup_cons.mp h
  exact List.nodup_cons.mpr ⟨fun z=>h1 (List.mem_map.mpr ⟨a,z,rfl⟩),kO h2⟩
theorem iZ {xs : List Nat} {t : Int × Int} (h : t∈cyc xs) : ∃ k,k < xs.length∧t = (ci (xs.getD (pk xs.length k) 0),ci (xs.getD k 0)):=by
 obtain ⟨k,hk,rfl⟩:=List.mem_map.mp h
 exact ⟨k,List.mem_range.mp hk,rfl⟩
theorem lM {c k : Nat} (h : k < c) : pk c k < c:=by unfold pk; split <;> lia
theorem kP {xs : List Nat} {k : Nat} (h : k < xs.length) : xs.getD k 0∈xs:=by rw [cQ h]; exact List.getElem_mem h
theorem kQ {xs : List Nat} (nd : xs.Nodup) {i j : Nat} (hi : i < xs.length) (hj : j < xs.length) (e : xs[i] = xs[j]) : i = j:=by
 have pw:=List.pairwise_iff_getElem.mp nd
 rcases Nat.lt_trichotomy i j with z | z | z
 ·exact absurd e (pw i j hi hj z)
 ·exact z
 ·exact absurd e.symm (pw j i hj hi z)
theorem pH {n : Nat} {xs : List Nat} (nd : xs.Nodup) (lt : ∀ x∈xs,x < n) (c2 : 2 ≤ xs.length) : Pre n (cyc xs)∧∀ h : Int,((cyc xs).filter fun t=>decide (t.1 = h)).length ≤ 1:=by
 have nd2 : ((cyc xs).map (·.2)).Nodup:=by rw [wJ]; exact tG nd
 have one : ∀ h : Int,((cyc xs).filter fun t=>decide (t.1 = h)).length ≤ 1:=fun h=>by
  rw [iC,(wK xs).count_eq]
  exact List.nodup_iff_count.mp (tG nd) h
 refine ⟨⟨kO nd2,fun t ht=>?_,fun t ht=>?_,fun h=>?_,fun h=>Nat.le_trans (one h) (by decide)⟩,one⟩
 ·obtain ⟨k,hk,rfl⟩:=iZ ht
  have h1:=lt _ (kP (lM hk))
  have h2:=lt _ (kP hk)
  simp only [ci]
  lia
 ·obtain ⟨k,hk,rfl⟩:=iZ ht
  intro e
  have e' : xs.getD (pk xs.length k) 0 = xs.getD k 0:=Int.ofNat.inj e
  rw [cQ (lM hk),cQ hk] at e'
  have:=kQ nd (lM hk) hk e'
  unfold pk at this
  split at this <;> lia
 ·rw [iC,mR,(wK xs).count_eq,wJ]
theorem lN {n : Nat} {ts us : Ts} (P : Pre n ts) (Q : Pre n us) (hd : ∀ t∈us,t ∉ ts) (hm : ∀ h : Int,(ts.filter fun t=>decide (t.1 = h)).length + (us.filter fun t=>decide (t.1 = h)).length ≤ 8) : Pre n (ts ++ us):=by
 refine ⟨List.nodup_append.mpr ⟨P.nd,Q.nd,fun a ha b hb e=>hd b hb (e ▸ ha)⟩,fun t ht=>?_,fun t ht=>?_,fun h=>?_,fun h=>?_⟩
 ·rcases List.mem_append.mp ht with z | z
  ·exact P.rg t z
  ·exact Q.rg t z
 ·rcases List.mem_append.mp ht with z | z
  ·exact P.ne t z
  ·exact Q.ne t z
 ·rw [List.filter_append,List.filter_append,List.length_append,List.length_append,P.bal,Q.bal]
 ·rw [List.filter_append,List.length_append]; exact hm h
theorem aAE {n : Nat} {ts : Ts} {xs : List Nat} (P : Pre n ts) (nd : xs.Nodup) (lt : ∀ x∈xs,x < n) (c2 : 2 ≤ xs.length) (hf : ∀ t∈cyc xs,(ts.filter fun u=>decide (u.1 = t.1)).length ≤ 7) (hn : ∀ t∈cyc xs,t ∉ ts) : Pre n (ts ++ cyc xs):=by
 obtain ⟨Q,one⟩:=pH nd lt c2
 refine lN P Q hn fun h=>?_
 by_cases z : (cyc xs).filter (fun t=>decide (t.1 = h)) = []
 ·rw [z]; simpa using P.most h
 ·obtain ⟨t,ht⟩:=List.exists_mem_of_ne_nil _ z
  obtain ⟨h1,h2⟩:=List.mem_filter.mp ht
  have e : t.1 = h:=by simpa using h2
  have a:=hf t h1
  rw [e] at a
  have:=one h
  lia
theorem aCc {xs : List Nat} {k : Nat} (hk : k < xs.length) : T (cyc xs) (xs.getD (pk xs.length k) 0) (xs.getD k 0):=List.mem_map.mpr ⟨k,List.mem_range.mpr hk,rfl⟩
theorem tH {xs : List Nat} (i : Nat) : ∀ (d : Nat),i + d < xs.length→Walk (cyc xs) d (xs.getD i 0) (xs.getD (i + d) 0)
 | 0,_=>rfl
 | d + 1,h=>by
  refine ⟨_,tH i d (by lia),?_⟩
  have:=aCc (xs:=xs) (k:=i + (d + 1)) h
  unfold pk at this
  rw [if_neg (by lia)] at this
  exact this
theorem qX {n : Nat} {xs : List Nat} (n1 : 2 ≤ n) (n2 : n ≤ 32) (pm : xs.Perm (List.range n)) : Fine n (cyc xs):=by
 have hl : xs.length = n:=by rw [pm.length_eq,List.length_range]
 have nd : xs.Nodup:=pm.nodup_iff.mpr List.nodup_range
 have lt : ∀ x∈xs,x < n:=fun x hx=>List.mem_range.mp (pm.mem_iff.mp hx)
 refine (pH nd lt (by lia)).1.fine n1 n2 fun a b ha hb=>?_
 obtain ⟨i,hi,ei⟩:=List.mem_iff_getElem.mp (pm.mem_iff.mpr (List.mem_range.mpr ha))
 obtain ⟨j,hj,ej⟩:=List.mem_iff_getElem.mp (pm.mem_iff.mpr (List.mem_range.mpr hb))
 have w1:=tH (xs:=xs) i (xs.length - 1 - i) (by lia)
 have t0:=aCc (xs:=xs) (k:=0) (by lia)
 have w3:=tH (xs:=xs) 0 j (by lia)
 rw [show i + (xs.length - 1 - i) = xs.length - 1 by lia] at w1
 rw [show pk xs.length 0 = xs.length - 1 from rfl] at t0
 rw [Nat.zero_add] at w3
 have w:=w1.trans (Walk.cons t0 w3)
 rw [cQ hi,cQ hj,ei,ej] at w
 exact ⟨_,w⟩
theorem oA : ∀ (hs : List Nat) (ts : Ts),hs.Nodup→(∀ h∈hs,8 ≤ (ts.filter fun t=>decide (t.1 = ci h)).length)→8 * hs.length ≤ ts.length
 | [],_,_,_=>by simp
 | h :: hs,ts,nd,hf=>by
  obtain ⟨h1,h2⟩:=List.nodup_cons.mp nd
  have e : ts.length = (ts.filter fun t=>decide (t.1 = ci h)).length + (ts.filter fun t=>!decide (t.1 = ci h)).length:=by
   clear hf
   induction ts with
   | nil=>rfl
   | cons x xs ih2=>by_cases q : x.1 = ci h <;> simp [List.filter_cons,q] <;> lia
  have a:=hf h List.mem_cons_self
  have ih:=oA hs (ts.filter fun t=>!decide (t.1 = ci h)) h2 fun x hx=>by
   refine Nat.le_trans (hf x (List.mem_cons_of_mem _ hx)) (Nat.le_of_eq ?_)
   rw [List.filter_filter]
   congr 1
   refine List.filter_congr fun t _=>?_
   by_cases q : t.1 = ci x
   ·have : ¬ t.1 = ci h:=fun z=>h1 (by have:=Int.ofNat.inj (z.symm.trans q); exact this ▸ hx)
    simp [q]
    rw [q] at this
    exact this
   ·simp [q]
  rw [List.length_cons]
  lia
structure Tree (n : Nat) (os : List Nat) (k : Nat) (ts : Ts) : Prop where
 pre : Pre n ts
 ends : ∀ t∈ts,∃ a b,a∈os.take k∧b∈os.take k∧t = (ci a,ci b)
 con : ∀ a b,a∈os.take k→b∈os.take k→∃ j,Walk ts j a b
 len : ts.length + 2 = 2 * k
theorem Tree.start {n : Nat} {os : List Nat} (h : 0 < os.length) : Tree n os 1 []:=by
 refine ⟨⟨List.nodup_nil,(fun t h=>nomatch h),(fun t h=>nomatch h),fun h=>rfl,fun h=>by simp⟩,(fun t h=>nomatch h),fun a b ha hb=>?_,rfl⟩
 cases os with
 | nil=>simp at h
 | cons o os =>
  simp at ha hb
  exact ⟨0,by rw [ha,hb]; rfl⟩
theorem Tree.free {n : Nat} {os : List Nat} {k : Nat} {ts : Ts} (T : Tree n os k ts) (nd : os.Nodup) (hk : k ≤ os.length) : ∃ h∈os.take k,(ts.filter fun t=>decide (t.1 = ci h)).length < 8:=by
 apply Classical.byContradiction
 intro hno
 have:=oA (os.take k) ts (nd.sublist (List.take_sublist _ _)) fun h hh=>Classical.byContradiction fun z=>hno ⟨h,hh,by lia⟩
 have hl:=T.len
 rw [List.length_take,Nat.min_eq_left hk] at this
 lia
theorem Tree.add {n : Nat} {os : List Nat} {k s v : Nat} {ts : Ts} (Tr : Tree n os k ts) (nd : os.Nodup) (lt : ∀ x∈os,x < n) (hv : os[k]? = some v) (hs : s∈os.take k) (hd : (ts.filter fun t=>decide (t.1 = ci s)).length < 8) : Tree n os (k + 1) (ts ++ [(ci s,ci v),(ci v,ci s)]):=by
 have tk : os.take (k + 1) = os.take k ++ [v]:=by rw [List.take_add_one,hv]; rfl
 have nd1 : (os.take k ++ [v]).Nodup:=by rw [← tk]; exact nd.sublist (List.take_sublist _ _)
 have vn : v ∉ os.take k:=fun z=>(List.nodup_append.mp nd1).2.2 v z v (by simp) rfl
 have sv : s ≠ v:=fun e=>vn (e ▸ hs)
 have vm : v∈os:=List.mem_of_getElem? hv
 have sl:=lt s (List.mem_of_mem_take hs)
 have vl:=lt v vm
 have nov : ∀ t∈ts,t.1 ≠ ci v∧t.2 ≠ ci v:=fun t ht=>by
  obtain ⟨a,b,ha,hb,rfl⟩:=Tr.ends t ht
  exact ⟨fun e=>vn (Int.ofNat.inj e ▸ ha),fun e=>vn (Int.ofNat.inj e ▸ hb)⟩
 have Q : Pre n [(ci s,ci v),(ci v,ci s)]:=by
  have svi : ci s ≠ ci v:=fun e=>sv (Int.ofNat.inj e)
  refine ⟨?_,fun t ht=>?_,fun t ht=>?_,fun h=>?_,fun h=>Nat.le_trans (List.length_filter_le _ _) (by simp)⟩
  ·simp [svi]
  ·simp at ht
   rcases ht with rfl | rfl <;> (simp only [ci]; lia)
  ·simp at ht
   rcases ht with rfl | rfl
   ·exact svi
   ·exact svi.symm
  ·by_cases a : ci s = h <;> by_cases b : ci v = h <;> simp [List.filter_cons,a,b]
 have P2 : Pre n (ts ++ [(ci s,ci v),(ci v,ci s)]):=by
  refine lN Tr.pre Q (fun t ht z=>?_) fun h=>?_
  ·simp at ht
   rcases ht with rfl | rfl
   ·exact (nov _ z).2 rfl
   ·exact (nov _ z).1 rfl
  ·have svi : ci s ≠ ci v:=fun e=>sv (Int.ofNat.inj e)
   by_cases a : ci s = h
   ·subst a
    have b : ¬ ci v = ci s:=svi.symm
    simp only [List.filter_cons,decide_true,if_true,decide_eq_false b]
    simp
    lia
   ·by_cases b : ci v = h
    ·subst b
     have z : ts.filter (fun t=>decide (t.1 = ci v)) = []:=List.filter_eq_nil_iff.mpr fun t ht=>by simpa using (nov t ht).1
     rw [z]
     exact Nat.le_trans (Nat.add_le_add_left (List.length_filter_le _ _) _) (by simp)
    ·have:=Tr.pre.most h
     simp [List.filter_cons,a,b]
     exact this
 have up : ∀ t∈ts,t∈ts ++ [(ci s,ci v),(ci v,ci s)]:=fun t ht=>List.mem_append_left _ ht
 have t1 : T (ts ++ [(ci s,ci v),(ci v,ci s)]) s v:=List.mem_append_right _ (by simp)
 have t2 : T (ts ++ [(ci s,ci v),(ci v,ci s)]) v s:=List.mem_append_right _ (by simp)
 have toS : ∀ a,a∈os.take k ++ [v]→∃ j,Walk (ts ++ [(ci s,ci v),(ci v,ci s)]) j a s:=fun a ha=>by
  rcases List.mem_append.mp ha with z | z
  ·obtain ⟨j,w⟩:=Tr.con a s z hs
   exact ⟨j,w.mono up⟩
  ·simp at z; subst z; exact ⟨1,Walk.one t2⟩
 have ofS : ∀ b,b∈os.take k ++ [v]→∃ j,Walk (ts ++ [(ci s,ci v),(ci v,ci s)]) j s b:=fun b hb=>by
  rcases List.mem_append.mp hb with z | z
  ·obtain ⟨j,w⟩:=Tr.con s b hs z
   exact ⟨j,w.mono up⟩
  ·simp at z; subst z; exact ⟨1,Walk.one t1⟩
 refine ⟨P2,fun t ht=>?_,fun a b ha hb=>?_,?_⟩
 ·rw [tk]
  rcases List.mem_append.mp ht with z | z
  ·obtain ⟨a,b,ha,hb,e⟩:=Tr.ends t z
   exact ⟨a,b,List.mem_append_left _ ha,List.mem_append_left _ hb,e⟩
  ·simp at z
   rcases z with rfl | rfl
   ·exact ⟨s,v,List.mem_append_left _ hs,by simp,rfl⟩
   ·exact ⟨v,s,by simp,List.mem_append_left _ hs,rfl⟩
 ·rw [tk] at ha hb
  obtain ⟨i,w1⟩:=toS a ha
  obtain ⟨j,w2⟩:=ofS b hb
  exact ⟨i + j,w1.trans w2⟩
 ·have:=Tr.len
  rw [List.length_append]
  simp
  lia
theorem Tree.fine {n : Nat} {os : List Nat} {ts : Ts} (Tr : Tree n os n ts) (n1 : 2 ≤ n) (n2 : n ≤ 32) (pm : os.Perm (List.range n)) : Fine n ts:=by
 have hl : os.length = n:=by rw [pm.length_eq,List.length_range]
 refine Tr.pre.fine n1 n2 fun a b ha hb=>Tr.con a b ?_ ?_
 ·rw [List.take_of_length_le (by lia)]; exact pm.mem_iff.mpr (List.mem_range.mpr ha)
 ·rw [List.take_of_length_le (by lia)]; exact pm.mem_iff.mpr (List.mem_range.mpr hb)
end NetM
namespace NetM
end NetM
namespace L2
open PySem PySem.Spec PyProof.Rows
section
variable {X : Cx}
theorem tI : ∀ {ns : List Int} {its : List Value},Vals (ns.map V.int) its→∃ xs : List (Int × Tok),its = xs.map (fun p=>Value.int p.1 p.2)∧xs.map (·.1) = ns
 | [],_,r=>by cases r; exact ⟨[],rfl,rfl⟩
 | n :: ns,_,r=>by
  cases r with
  | cons r rr =>
   obtain ⟨t,rfl⟩:=(show ∃ t,_ = Value.int n t from r)
   obtain ⟨xs,rfl,e⟩:=tI rr
   exact ⟨(n,t) :: xs,rfl,by rw [List.map_cons,e]⟩
def aEx (K : PySem.W.Frag) : List V→Hp→VK→Prop:=fun xs H Q=>∃ (l : Addr) (ns : List Int),xs = [.ref l]∧SqL K H l (ns.map V.int)∧ns ≠ []∧∀ M,M∈ns→(∀ a∈ns,a ≤ M)→Q (.int M) H
theorem qY (hc : X.calm = true) : cI X (.builtin "max") (aEx X.K) := by
  intro pins s σ H xs us Q I r h
  obtain ⟨l, ns, rfl, hl, hne, q⟩ := h
  obtain ⟨u1, rfl, r1⟩ := r.one
  obtain rfl : u1 = Value.ref l := r1
  obtain ⟨its, rv, pl, _⟩ := I.list hl
  obtain ⟨ps, rfl, rfl⟩ := tI rv
  have hi : intItems ps.toArray = (ps.map (fun p => Value.int p.1 p.2)).toArray := by unfold intItems; simp
  have hsz : 0 < ps.toArray.size := by
    cases ps with
    | nil => exact absurd rfl hne
    | cons p ps => simp
  refine max_intList (I.ok.hd hc) (xs := ps.toArray) (by rw [hi]; exact pl.isList) hsz fun v h' tk hv hk => ?_
  obtain ⟨t, rfl⟩ := intItems_at hv
  obtain ⟨h1, h2⟩ := argBest_gt (numAt ps.toArray) (ps.toArray.size - 1)
  have num : ∀ j, j < ps.length → numAt ps.toArray j ∈ ps.map (·.1) ∧ numAt ps.toArray j = (ps.map (·.1)).getD j 0 := fun j hj => by
    have e : numAt ps.toArray j = ps[j].1 := by unfold numAt; simp [List.getElem?_eq_getElem hj]
    refine ⟨by rw [e]; exact List.mem_map.mpr ⟨_, List.getElem_mem hj, rfl⟩, ?_⟩
    rw [e, List.getD_eq_getElem?_getD, List.getElem?_map, List.getElem?_eq_getElem hj]; rfl
  have hb : argBest (fun i j => decide (numAt ps.toArray i > numAt ps.toArray j)) (ps.toArray.size - 1) < ps.length := by
    have : ps.toArray.size = ps.length := by simp
    lia
  refine ⟨.int _, H, I.kept (t' := tk) hk, ⟨t, rfl⟩, q _ (num _ hb).1 fun a ha => ?_⟩
  obtain ⟨j, hj, e⟩ := List.mem_iff_getElem.mp ha
  rw [List.length_map] at hj
  have := h2 j (by have : ps.toArray.size = ps.length := by simp
                   lia)
  rw [(num j hj).2, List.getD_eq_getElem?_getD, List.getElem?_eq_getElem (by rw [List.length_map]; exact hj)] at this
  rw [← e]
  exact this
end
end L2
namespace NetM
abbrev swp (u : Int × Int) : Int × Int:=(u.2,u.1)
def dbl (ps : Ts) : Ts:=ps.flatMap fun u=>[u,swp u]
theorem gK {ps qs : Ts} : dbl (ps ++ qs) = dbl ps ++ dbl qs:=List.flatMap_append
theorem eG : ∀ {ps : Ts},(dbl ps).Perm (ps ++ ps.map swp)
 | []=>List.Perm.refl _
 | u :: ps=>by
  have ih:=eG (ps:=ps)
  show (u :: swp u :: dbl ps).Perm (u :: (ps ++ swp u :: ps.map swp))
  refine List.Perm.cons _ ?_
  exact (ih.cons _).trans List.perm_middle.symm
theorem fA : ∀ {ps : Ts},(dbl ps).length = 2 * ps.length
 | []=>rfl
 | u :: ps=>by
  have ih:=fA (ps:=ps)
  show (dbl ps).length + 2 = 2 * (ps.length + 1)
  lia
theorem wL {ps : Ts} {u : Int × Int} (h : u∈dbl ps) : swp u∈dbl ps:=by
 obtain ⟨v,hv,hu⟩:=List.mem_flatMap.mp h
 refine List.mem_flatMap.mpr ⟨v,hv,?_⟩
 rcases List.mem_cons.mp hu with e | e
 ·rw [e]; exact List.mem_cons_of_mem _ (List.mem_singleton.mpr rfl)
 ·rw [List.mem_singleton.mp e]; exact List.mem_cons_self
theorem jA {ps : Ts} {u : Int × Int} : u∈dbl ps↔u∈ps∨swp u∈ps:=by
 rw [(eG (ps:=ps)).mem_iff,List.mem_append]
 refine or_congr Iff.rfl ⟨fun h=>?_,fun h=>List.mem_map.mpr ⟨_,h,rfl⟩⟩
 obtain ⟨v,hv,rfl⟩:=List.mem_map.mp h
 exact hv
theorem wM {ps : Ts} : ((dbl ps).map swp).Perm (dbl ps):=by
 refine ((eG (ps:=ps)).map swp).trans (List.Perm.trans ?_ (eG (ps:=ps)).symm)
 rw [List.map_append,List.map_map]
 have e : ps.map (swp ∘ swp) = ps:=(List.map_congr_left fun u _=>rfl).trans (List.map_id ps)
 rw [e]
 exact List.perm_append_comm
def memB (x : Nat) : List Nat→Bool
 | []=>false
 | y :: ys=>Nat.beq x y || memB x ys
theorem mS {x : Nat} : ∀ {ys : List Nat},memB x ys = true↔x∈ys
 | []=>by simp [memB]
 | y :: ys=>by
  unfold memB
  rw [Bool.or_eq_true,mS (ys:=ys),List.mem_cons]
  exact or_congr ⟨fun h=>Nat.eq_of_beq_eq_true h,fun h=>by rw [h]; exact Nat.beq_refl y⟩ Iff.rfl
def ndB : List Nat→Bool
 | []=>true
 | x :: xs=>!memB x xs && ndB xs
theorem aAF : ∀ {xs : List Nat},ndB xs = true→xs.Nodup
 | [],_=>List.nodup_nil
 | x :: xs,h=>by
  unfold ndB at h
  rw [Bool.and_eq_true] at h
  refine List.nodup_cons.mpr ⟨fun z=>?_,aAF h.2⟩
  rw [mS.mpr z] at h
  exact absurd h.1 (by decide)
def inc : List Nat→Bool
 | x :: y :: r=>Nat.ble x y && inc (y :: r)
 | _=>true
theorem aAG : ∀ {xs : List Nat},inc xs = true→xs.Pairwise (· ≤ ·)
 | [],_=>List.Pairwise.nil
 | [x],_=>List.pairwise_singleton _ _
 | x :: y :: r,h=>by
  unfold inc at h
  rw [Bool.and_eq_true] at h
  have ih:=aAG h.2
  refine List.pairwise_cons.mpr ⟨fun z hz=>?_,ih⟩
  have h1:=Nat.le_of_ble_eq_true h.1
  rcases List.mem_cons.mp hz with e | e
  ·rw [e]; exact h1
  ·exact Nat.le_trans h1 ((List.pairwise_cons.mp ih).1 z e)
abbrev ci2 (q : Nat × Nat) : Int × Int:=((q.1 : Int),(q.2 : Int))
def cds (qs : List (Nat × Nat)) : List Nat:=qs.flatMap fun q=>[64 * q.1 + q.2,64 * q.2 + q.1]
def dec (c : Nat) : Int × Int:=(((c / 64 : Nat) : Int),((c % 64 : Nat) : Int))
theorem tJ {a b : Nat} (h : b < 64) : dec (64 * a + b) = ((a : Int),(b : Int)):=by
 unfold dec
 rw [show (64 * a + b) / 64 = a by lia,show (64 * a + b) % 64 = b by lia]
theorem lO : ∀ {qs : List (Nat × Nat)},(∀ q∈qs,q.1 < 64∧q.2 < 64)→(cds qs).map dec = dbl (qs.map ci2)
 | [],_=>rfl
 | q :: qs,h=>by
  have ih:=lO (qs:=qs) fun x hx=>h x (List.mem_cons_of_mem _ hx)
  obtain ⟨h1,h2⟩:=h q List.mem_cons_self
  show dec (64 * q.1 + q.2) :: dec (64 * q.2 + q.1) :: (cds qs).map dec = ci2 q :: swp (ci2 q) :: dbl (qs.map ci2)
  rw [ih,tJ h2,tJ h1]
def b1 (b : Bool) : Nat:=cond b 1 0
def cntB (h : Nat) : List (Nat × Nat)→Nat
 | []=>0
 | q :: qs=>b1 (Nat.beq q.1 h) + (b1 (Nat.beq q.2 h) + cntB h qs)
theorem pI {h : Nat} : ∀ {qs : List (Nat × Nat)},((dbl (qs.map ci2)).filter fun t=>decide (t.1 = (h : Int))).length = cntB h qs
 | []=>rfl
 | q :: qs=>by
  have ih:=pI (h:=h) (qs:=qs)
  have e : ∀ a : Nat,(if decide ((a : Int) = (h : Int)) = true then 1 else 0) = b1 (Nat.beq a h):=fun a=>by
   by_cases c : a = h
   ·subst c; rw [if_pos (by simp),Nat.beq_refl]; rfl
   ·rw [if_neg (by simp; lia),show Nat.beq a h = false from Bool.eq_false_iff.mpr fun z=>c (Nat.eq_of_beq_eq_true z)]; rfl
  show ((ci2 q :: swp (ci2 q) :: dbl (qs.map ci2)).filter _).length = b1 (Nat.beq q.1 h) + (b1 (Nat.beq q.2 h) + cntB h qs)
  rw [← ih,← e q.1,← e q.2,List.filter_cons,List.filter_cons]
  split <;> split <;> simp <;> lia
def yF (n : Nat) (qs : List (Nat × Nat)) : Bool:=Nat.ble 2 n && (Nat.ble n 32 && (ndB (cds qs) && (qs.all (fun q=>Nat.blt q.1 n && (Nat.blt q.2 n && !Nat.beq q.1 q.2)) && ((List.range n).all (fun h=>Nat.ble (cntB h qs) 8) &&
 (List.range n).all (fun v=>Nat.beq v 0 || (List.range v).reverse.any (fun u=>memB (64 * u + v) (cds qs)))))))
theorem iD {a b : Nat} (h : Nat.blt a b = true) : a < b:=Nat.le_of_ble_eq_true h
theorem aBD {n : Nat} {qs : List (Nat × Nat)} (h : yF n qs = true) : Fine n (dbl (qs.map ci2))∧∀ q∈qs,q.1 < 64∧q.2 < 64:=by
 unfold yF at h
 simp only [Bool.and_eq_true,List.all_eq_true,List.mem_range,Bool.or_eq_true,List.any_eq_true,List.mem_reverse] at h
 obtain ⟨h1,h2,h3,h4,h5,h6⟩:=h
 have h1:=Nat.le_of_ble_eq_true h1
 have h2:=Nat.le_of_ble_eq_true h2
 have q64 : ∀ q∈qs,q.1 < 64∧q.2 < 64:=fun q hq=>⟨by have:=iD (h4 q hq).1; lia,by have:=iD (h4 q hq).2.1; lia⟩
 have mem : ∀ t∈dbl (qs.map ci2),∃ q∈qs,t = ci2 q∨t = swp (ci2 q):=fun t ht=>by
  rcases jA.mp ht with z | z
  ·obtain ⟨q,hq,e⟩:=List.mem_map.mp z; exact ⟨q,hq,.inl e.symm⟩
  ·obtain ⟨q,hq,e⟩:=List.mem_map.mp z; exact ⟨q,hq,.inr (by rw [e])⟩
 have rg : ∀ t∈dbl (qs.map ci2),((0 ≤ t.1∧t.1 < n)∧(0 ≤ t.2∧t.2 < n))∧t.1 ≠ t.2:=fun t ht=>by
  obtain ⟨q,hq,e⟩:=mem t ht
  have a:=iD (h4 q hq).1
  have b:=iD (h4 q hq).2.1
  have c : q.1 ≠ q.2:=fun z=>by have:=(h4 q hq).2.2; rw [z,Nat.beq_refl] at this; exact absurd this (by decide)
  rcases e with rfl | rfl
  ·exact ⟨⟨⟨by show (0 : Int) ≤ (q.1 : Int); lia,by show (q.1 : Int) < n; lia⟩,by show (0 : Int) ≤ (q.2 : Int); lia,by show (q.2 : Int) < n; lia⟩,by show ((q.1 : Nat) : Int) ≠ (q.2 : Nat); lia⟩
  ·exact ⟨⟨⟨by show (0 : Int) ≤ (q.2 : Int); lia,by show (q.2 : Int) < n; lia⟩,by show (0 : Int) ≤ (q.1 : Int); lia,by show (q.1 : Int) < n; lia⟩,by show ((q.2 : Nat) : Int) ≠ (q.1 : Nat); lia⟩
 have bal : ∀ h : Int,((dbl (qs.map ci2)).filter fun t=>decide (t.1 = h)).length = ((dbl (qs.map ci2)).filter fun t=>decide (t.2 = h)).length:=fun h=>by
  rw [← (wM (ps:=qs.map ci2)).filter (fun t=>decide (t.1 = h)) |>.length_eq,List.filter_map,List.length_map]
  rfl
 have nd : (dbl (qs.map ci2)).Nodup:=by
  rw [← lO q64]
  refine List.Pairwise.map _ (fun a b hab e=>hab ?_) (List.nodup_iff_pairwise_ne.mp (aAF h3))
  have e1 : a / 64 = b / 64:=Int.ofNat.inj (congrArg Prod.fst e)
  have e2 : a % 64 = b % 64:=Int.ofNat.inj (congrArg Prod.snd e)
  lia
 refine ⟨⟨h1,h2,nd,fun t ht=>(rg t ht).1,fun t ht=>(rg t ht).2,bal,fun h=>?_,fun a b ha hb=>?_⟩,q64⟩
 ·by_cases c : 0 ≤ h∧h < n
  ·have:=Nat.le_of_ble_eq_true (h5 h.toNat (by lia))
   rw [← pI,Int.toNat_of_nonneg c.1] at this
   exact this
  ·have e : (dbl (qs.map ci2)).filter (fun t=>decide (t.1 = h)) = []:=List.filter_eq_nil_iff.mpr fun t ht e=>c ((show t.1 = h from of_decide_eq_true e) ▸ (rg t ht).1.1)
   rw [e]; exact Nat.zero_le _
 ·have both : ∀ v,v < n→(∃ k,Walk (dbl (qs.map ci2)) k 0 v)∧∃ k,Walk (dbl (qs.map ci2)) k v 0:=by
   intro v
   induction v using Nat.strongRecOn with
   | ind v ih =>
    intro hv
    rcases h6 v hv with e | ⟨u,hu,t1⟩
    ·have e:=Nat.eq_of_beq_eq_true e
     subst e; exact ⟨⟨0,rfl⟩,0,rfl⟩
    ·obtain ⟨⟨k,w⟩,l,w'⟩:=ih u hu (by lia)
     have t : T (dbl (qs.map ci2)) u v:=by
      have:=List.mem_map.mpr ⟨_,mS.mp t1,tJ (a:=u) (b:=v) (by lia)⟩
      rw [lO q64] at this
      exact this
     have t' : T (dbl (qs.map ci2)) v u:=wL t
     exact ⟨⟨k + 1,u,w,t⟩,l + 1,Walk.cons t' w'⟩
  obtain ⟨_,k,w⟩:=both a ha
  obtain ⟨⟨l,w'⟩,_⟩:=both b hb
  exact ⟨_,w.trans w'⟩
def kR (f b : Nat) : List (Nat × Nat):=(List.range f).flatMap fun at_=>(List.range (b ^ f)).flatMap fun h=>(List.range (b - h / b ^ at_ % b - 1)).map fun k=>(h,h + (k + 1) * b ^ at_)
def figs (f b h : Nat) : List Nat:=(List.range f).map fun k=>h / b ^ k % b
def unl (f b o p : Nat) : Nat:=((List.range f).filter fun k=>!Nat.beq ((figs f b o).getD k 0) ((figs f b p).getD k 0)).length
def tK (f b : Nat) : List Nat:=(List.range (b ^ f)).flatMap fun o=>((List.range (b ^ f)).filter fun p=>Nat.beq (unl f b o p) 1).map fun p=>64 * o + p
def tL (f b : Nat) : Ts:=(tK f b).map dec
def wN (f b : Nat) : Bool:=yF (b ^ f) (kR f b) && ((cds (kR f b)).isPerm (tK f b) && inc (tK f b))
theorem yG : (List.range 6).all (fun f=>(List.range 6).all fun b=>Nat.blt f 1 || (Nat.blt b 2 || (Nat.blt 32 (b ^ f) || wN f b))) = true:=by decide +kernel
theorem yH {f b : Nat} (f1 : 1 ≤ f) (f2 : f ≤ 5) (b1 : 2 ≤ b) (b2 : b ≤ 5) (hm : b ^ f ≤ 32) : Fine (b ^ f) (dbl ((kR f b).map ci2))∧(dbl ((kR f b).map ci2)).Perm (tL f b)∧(tL f b).Pairwise (fun u v=>64 * u.1 + u.2 ≤ 64 * v.1 + v.2):=by
 have:=List.all_eq_true.mp (List.all_eq_true.mp yG f (List.mem_range.mpr (by lia))) b (List.mem_range.mpr (by lia))
 rw [Bool.or_eq_true,Bool.or_eq_true,Bool.or_eq_true] at this
 rcases this with z | z | z | z
 ·have:=iD z; lia
 ·have:=iD z; lia
 ·have:=iD z; lia
 ·unfold wN at z
  rw [Bool.and_eq_true,Bool.and_eq_true] at z
  obtain ⟨h1,h2,h3⟩:=z
  obtain ⟨F,q64⟩:=aBD h1
  refine ⟨F,?_,?_⟩
  ·rw [← lO q64]
   exact (List.isPerm_iff.mp h2).map dec
  ·unfold tL
   rw [List.pairwise_map]
   refine (aAG h3).imp fun {a b} h=>?_
   unfold dec
   show 64 * ((a / 64 : Nat) : Int) + ((a % 64 : Nat) : Int) ≤ 64 * ((b / 64 : Nat) : Int) + ((b % 64 : Nat) : Int)
   lia
end NetM
namespace NetM
def pr : List Nat→Nat
 | []=>1
 | n :: ns=>n * pr ns
def bxr (m st n : Nat) : List (Nat × Nat):=((List.range m).filter fun h=>decide (h / st % n + 1 < n)).map fun h=>(h,h + st)
def bx (m : Nat) : Nat→List Nat→List (Nat × Nat)
 | _,[]=>[]
 | st,n :: ns=>bxr m st n ++ bx m (st * n) ns
def boxQ (ns : List Nat) : List (Nat × Nat):=bx (pr ns) 1 ns
def UpS : Nat→List Nat→Nat→Nat→Prop
 | _,[],_,_=>False
 | st,n :: ns,a,b=>(a / st % n + 1 < n∧b = a + st)∨UpS (st * n) ns a b
theorem wO {m st n : Nat} {q : Nat × Nat} : q∈bxr m st n↔q.1 < m∧q.1 / st % n + 1 < n∧q.2 = q.1 + st:=by
 unfold bxr
 rw [List.mem_map]
 constructor
 ·rintro ⟨h,hh,rfl⟩
  obtain ⟨h1,h2⟩:=List.mem_filter.mp hh
  exact ⟨List.mem_range.mp h1,of_decide_eq_true h2,rfl⟩
 ·rintro ⟨h1,h2,h3⟩
  exact ⟨q.1,List.mem_filter.mpr ⟨List.mem_range.mpr h1,decide_eq_true h2⟩,Prod.ext rfl h3.symm⟩
theorem oB {m : Nat} {q : Nat × Nat} : ∀ {ns : List Nat} {st : Nat},q∈bx m st ns↔q.1 < m∧UpS st ns q.1 q.2
 | [],st=>⟨fun h=>(nomatch h),fun h=>h.2.elim⟩
 | n :: ns,st=>by
  unfold bx UpS
  rw [List.mem_append,wO,oB (ns:=ns)]
  constructor
  ·rintro (⟨a,b,c⟩ | ⟨a,b⟩)
   ·exact ⟨a,.inl ⟨b,c⟩⟩
   ·exact ⟨a,.inr b⟩
  ·rintro ⟨a,⟨b,c⟩ | b⟩
   ·exact .inl ⟨a,b,c⟩
   ·exact .inr ⟨a,b⟩
abbrev U (ns : List Nat) : Nat→Nat→Prop:=UpS 1 ns
theorem pJ : ∀ {ns : List Nat} {st a b : Nat},0 < st→(∀ n∈ns,0 < n)→(UpS st ns a b↔a % st = b % st∧U ns (a / st) (b / st))
 | [],st,a,b,h,_=>⟨fun z=>z.elim,fun z=>z.2.elim⟩
 | n :: ns,st,a,b,h,hn=>by
  have hn0:=hn n List.mem_cons_self
  have hns : ∀ n∈ns,0 < n:=fun x hx=>hn x (List.mem_cons_of_mem _ hx)
  show (_∨UpS (st * n) ns a b)↔a % st = b % st∧(_∨UpS (1 * n) ns (a / st) (b / st))
  rw [Nat.one_mul,pJ (Nat.mul_pos h hn0) hns,pJ hn0 hns,Nat.div_one,Nat.div_div_eq_div_mul a st n,Nat.div_div_eq_div_mul b st n,Nat.mod_mul,Nat.mod_mul]
  have e1:=Nat.div_add_mod a st
  have e2:=Nat.div_add_mod b st
  constructor
  ·rintro (⟨c,rfl⟩ | ⟨c,d⟩)
   ·refine ⟨by rw [Nat.add_mod_right],.inl ⟨c,by rw [Nat.add_div_right _ h]⟩⟩
   ·have m1 : a % st = b % st:=by
     have:=congrArg (· % st) c
     simp only [Nat.add_mul_mod_self_left,Nat.mod_mod] at this
     exact this
    refine ⟨m1,.inr ⟨?_,d⟩⟩
    rw [m1] at c
    exact Nat.eq_of_mul_eq_mul_left h (Nat.add_left_cancel c)
  ·rintro ⟨m1,⟨c,d⟩ | ⟨c,d⟩⟩
   ·refine .inl ⟨c,?_⟩
    rw [← e2,d,← m1,Nat.mul_add,Nat.mul_one,Nat.add_right_comm,e1]
   ·exact .inr ⟨by rw [m1,c],d⟩
theorem tO {n : Nat} {ns : List Nat} {a b : Nat} (h : ∀ x∈n :: ns,0 < x) : U (n :: ns) a b↔(a % n + 1 < n∧b = a + 1)∨(a % n = b % n∧U ns (a / n) (b / n)):=by
 show (_∨UpS (1 * n) ns a b)↔_
 rw [Nat.one_mul,pJ (h n List.mem_cons_self) fun x hx=>h x (List.mem_cons_of_mem _ hx),Nat.div_one]
theorem yI {a n : Nat} (h : a % n + 1 < n) : (a + 1) / n = a / n∧(a + 1) % n = a % n + 1:=by
 have e:=Nat.div_add_mod a n
 have e2 : a + 1 = n * (a / n) + (a % n + 1):=by lia
 have hn : 0 < n:=by lia
 rw [e2,Nat.mul_add_div hn,Nat.mul_add_mod,Nat.div_eq_of_lt h,Nat.mod_eq_of_lt h]
 exact ⟨rfl,rfl⟩
theorem u_lt : ∀ {ns : List Nat} {a b : Nat},(∀ x∈ns,0 < x)→U ns a b→a < pr ns→a < b∧b < pr ns
 | [],a,b,_,h,_=>h.elim
 | n :: ns,a,b,hn,h,ha=>by
  have hn0:=hn n List.mem_cons_self
  have hns : ∀ n∈ns,0 < n:=fun x hx=>hn x (List.mem_cons_of_mem _ hx)
  have ha' : a < n * pr ns:=ha
  have hq : a / n < pr ns:=Nat.div_lt_of_lt_mul ha'
  show a < b∧b < n * pr ns
  rcases (tO hn).mp h with ⟨c,rfl⟩ | ⟨c,d⟩
  ·refine ⟨by lia,?_⟩
   have e:=Nat.div_add_mod a n
   have:=Nat.mul_le_mul_left n hq
   rw [Nat.succ_eq_add_one,Nat.mul_add,Nat.mul_one] at this
   lia
  ·obtain ⟨i1,i2⟩:=u_lt hns d hq
   refine ⟨?_,?_⟩
   ·have e1:=Nat.div_add_mod a n
    have e2:=Nat.div_add_mod b n
    have:=Nat.mul_lt_mul_of_pos_left i1 hn0
    lia
   ·have e2:=Nat.div_add_mod b n
    have hm:=Nat.mod_lt b hn0
    have:=Nat.mul_le_mul_left n i2
    rw [Nat.succ_eq_add_one,Nat.mul_add,Nat.mul_one] at this
    lia
theorem aAH : ∀ {ns : List Nat} {v : Nat},(∀ x∈ns,0 < x)→0 < v→v < pr ns→∃ u,u < v∧U ns u v
 | [],v,_,h1,h2=>by have h2 : v < 1:=h2; lia
 | n :: ns,v,hn,h1,h2=>by
  have hn0:=hn n List.mem_cons_self
  have hns : ∀ n∈ns,0 < n:=fun x hx=>hn x (List.mem_cons_of_mem _ hx)
  have lv:=Nat.mod_lt v hn0
  have ev:=Nat.div_add_mod v n
  by_cases c : v % n = 0
  ·have hq : 0 < v / n:=by
    rcases Nat.eq_zero_or_pos (v / n) with z | z
    ·rw [z,c] at ev; simp at ev; lia
    ·exact z
   obtain ⟨u,hu,uu⟩:=aAH (v:=v / n) hns hq (Nat.div_lt_of_lt_mul h2)
   refine ⟨n * u,?_,(tO hn).mpr (.inr ⟨by rw [Nat.mul_mod_right,c],by rw [Nat.mul_div_cancel_left _ hn0]; exact uu⟩)⟩
   have:=Nat.mul_lt_mul_of_pos_left hu hn0
   lia
  ·have hv : v - 1 = n * (v / n) + (v % n - 1):=by lia
   have hm : (v - 1) % n = v % n - 1:=by rw [hv,Nat.mul_add_mod,Nat.mod_eq_of_lt (by lia)]
   exact ⟨v - 1,by lia,(tO hn).mpr (.inl ⟨by lia,by lia⟩)⟩
end NetM
namespace NetM
theorem wP : ∀ {ns : List Nat} {st a b : Nat},(∀ x∈ns,0 < x)→UpS st ns a b→a + st ≤ b
 | [],st,a,b,_,h=>h.elim
 | n :: ns,st,a,b,hn,h=>by
  rcases h with ⟨_,rfl⟩ | h
  ·exact Nat.le_refl _
  ·have:=wP (fun x hx=>hn x (List.mem_cons_of_mem _ hx)) h
   have h1:=Nat.le_mul_of_pos_right st (hn n List.mem_cons_self)
   lia
theorem aAI {m st n : Nat} : (bxr m st n).Nodup:=by
 unfold bxr
 refine List.nodup_iff_pairwise_ne.mpr (List.pairwise_map.mpr ?_)
 exact (List.nodup_iff_pairwise_ne.mp (List.nodup_range.sublist List.filter_sublist)).imp fun {a b} h e=>h (congrArg Prod.fst e)
theorem tP {m : Nat} : ∀ {ns : List Nat} {st : Nat},0 < st→(∀ x∈ns,2 ≤ x)→(bx m st ns).Nodup
 | [],_,_,_=>List.nodup_nil
 | n :: ns,st,h,hn=>by
  have hn2:=hn n List.mem_cons_self
  have hns : ∀ x∈ns,2 ≤ x:=fun x hx=>hn x (List.mem_cons_of_mem _ hx)
  refine List.nodup_append.mpr ⟨aAI,tP (Nat.mul_pos h (by lia)) hns,fun x hx y hy e=>?_⟩
  subst e
  have h1:=(wO.mp hx).2.2
  have h2:=wP (fun x hx=>by have:=hns x hx; lia) (oB.mp hy).2
  have h3:=Nat.mul_le_mul_left st hn2
  lia
theorem aAJ {ps : Ts} (nd : ps.Nodup) (h : ∀ u∈ps,u.1 < u.2) : (dbl ps).Nodup:=by
 refine (eG (ps:=ps)).nodup_iff.mpr (List.nodup_append.mpr ⟨nd,?_,fun x hx y hy e=>?_⟩)
 ·refine List.nodup_iff_pairwise_ne.mpr (List.pairwise_map.mpr ((List.nodup_iff_pairwise_ne.mp nd).imp fun {a b} hab e=>hab ?_))
  exact Prod.ext (congrArg Prod.snd e) (congrArg Prod.fst e)
 ·subst e
  obtain ⟨u,hu,rfl⟩:=List.mem_map.mp hy
  have h1:=h _ hx
  have h2:=h u hu
  have h1 : u.2 < u.1:=h1
  lia
theorem aAK {qs : List (Nat × Nat)} (h : qs.Nodup) : (qs.map ci2).Nodup:=by
 refine List.nodup_iff_pairwise_ne.mpr (List.pairwise_map.mpr ((List.nodup_iff_pairwise_ne.mp h).imp fun {a b} hab e=>hab ?_))
 exact Prod.ext (Int.ofNat.inj (congrArg Prod.fst e)) (Int.ofNat.inj (congrArg Prod.snd e))
theorem mH {h : Nat} : ∀ {a b : List (Nat × Nat)},cntB h (a ++ b) = cntB h a + cntB h b
 | [],b=>by show cntB h b = 0 + _; lia
 | q :: a,b=>by
  have:=mH (h:=h) (a:=a) (b:=b)
  show b1 _ + (b1 _ + cntB h (a ++ b)) = b1 _ + (b1 _ + cntB h a) + cntB h b
  lia
theorem aCd {a b : Nat} : b1 (Nat.beq a b) = if a = b then 1 else 0:=by
 by_cases c : a = b
 ·subst c; rw [if_pos rfl,Nat.beq_refl]; rfl
 ·rw [if_neg c,show Nat.beq a b = false from Bool.eq_false_iff.mpr fun z=>c (Nat.eq_of_beq_eq_true z)]; rfl
theorem wQ {h st : Nat} : ∀ {L : List Nat},L.Nodup→cntB h (L.map fun x=>(x,x + st)) ≤ (if h∈L then 1 else 0) + (if st ≤ h∧h - st∈L then 1 else 0)
 | [],_=>Nat.zero_le _
 | x :: L,nd=>by
  obtain ⟨n1,n2⟩:=List.nodup_cons.mp nd
  have ih:=wQ (h:=h) (st:=st) n2
  show b1 (Nat.beq x h) + (b1 (Nat.beq (x + st) h) + cntB h (L.map fun x=>(x,x + st))) ≤ _
  rw [aCd,aCd]
  have e1 : (if h∈x :: L then 1 else 0) = (if x = h then 1 else 0) + (if h∈L then 1 else 0):=by
   by_cases c : x = h
   ·subst c; rw [if_pos List.mem_cons_self,if_pos rfl,if_neg n1]
   ·rw [if_neg c]
    by_cases d : h∈L
    ·rw [if_pos (List.mem_cons_of_mem _ d),if_pos d]
    ·rw [if_neg d,if_neg (fun z=>(List.mem_cons.mp z).elim (fun z=>c z.symm) d)]
  have e2 : (if st ≤ h∧h - st∈x :: L then 1 else 0) = (if x + st = h then 1 else 0) + (if st ≤ h∧h - st∈L then 1 else 0):=by
   by_cases c : x + st = h
   ·have e : h - st = x:=by lia
    rw [if_pos c,e,if_pos ⟨by lia,List.mem_cons_self⟩,if_neg (fun z=>n1 z.2)]
   ·rw [if_neg c]
    by_cases d : st ≤ h∧h - st∈L
    ·rw [if_pos d,if_pos ⟨d.1,List.mem_cons_of_mem _ d.2⟩]
    ·rw [if_neg d,if_neg]
     rintro ⟨z1,z2⟩
     rcases List.mem_cons.mp z2 with z | z
     ·lia
     ·exact d ⟨z1,z⟩
  rw [e1,e2]
  lia
def wt : List Nat→Nat
 | []=>0
 | n :: ns=>(if n = 2 then 1 else 2) + wt ns
theorem aCQ {m st n h : Nat} (hs : 0 < st) : cntB h (bxr m st n) ≤ if n = 2 then 1 else 2:=by
 have c:=wQ (h:=h) (st:=st) (L:=(List.range m).filter fun h=>decide (h / st % n + 1 < n)) (List.nodup_range.sublist List.filter_sublist)
 refine Nat.le_trans c ?_
 by_cases e : n = 2
 ·rw [if_pos e]
  by_cases c1 : h∈(List.range m).filter fun h=>decide (h / st % n + 1 < n)
  ·rw [if_pos c1,if_neg]
   ·lia
   ·rintro ⟨z1,z2⟩
    have d1 : h / st % n + 1 < n:=of_decide_eq_true (List.mem_filter.mp c1).2
    have d2 : (h - st) / st % n + 1 < n:=of_decide_eq_true (List.mem_filter.mp z2).2
    have d3 : h / st = (h - st) / st + 1:=by
     have:=Nat.add_div_right (h - st) hs
     rw [show h - st + st = h by lia] at this
     exact this
    obtain ⟨_,d4⟩:=yI d2
    rw [← d3] at d4
    lia
  ·rw [if_neg c1]; split <;> lia
 ·rw [if_neg e]; split <;> split <;> lia
theorem aAL {m h : Nat} : ∀ {ns : List Nat} {st : Nat},0 < st→(∀ x∈ns,0 < x)→cntB h (bx m st ns) ≤ wt ns
 | [],_,_,_=>Nat.le_refl _
 | n :: ns,st,hs,hn=>by
  show cntB h (bxr m st n ++ bx m (st * n) ns) ≤ _ + wt ns
  rw [mH]
  have h1:=aCQ (m:=m) (n:=n) (h:=h) hs
  have h2:=aAL (m:=m) (h:=h) (ns:=ns) (st:=st * n) (Nat.mul_pos hs (hn n List.mem_cons_self)) fun x hx=>hn x (List.mem_cons_of_mem _ hx)
  lia
theorem aAM : ∀ {ns : List Nat},(∀ x∈ns,2 ≤ x)→3 ^ wt ns ≤ pr ns * pr ns
 | [],_=>Nat.le_refl _
 | n :: ns,hn=>by
  have ih:=aAM (ns:=ns) fun x hx=>hn x (List.mem_cons_of_mem _ hx)
  have h2:=hn n List.mem_cons_self
  show 3 ^ ((if n = 2 then 1 else 2) + wt ns) ≤ n * pr ns * (n * pr ns)
  rw [Nat.pow_add,Nat.mul_mul_mul_comm]
  refine Nat.mul_le_mul ?_ ih
  by_cases c : n = 2
  ·rw [if_pos c,c]; decide
  ·rw [if_neg c]
   have : 3 ≤ n:=by lia
   exact Nat.mul_le_mul this this
theorem aEy {ns : List Nat} (hn : ∀ x∈ns,2 ≤ x) (hp : pr ns ≤ 32) : wt ns ≤ 8:=by
 refine Classical.byContradiction fun z=>?_
 have h1 : 3 ^ 9 ≤ 3 ^ wt ns:=Nat.pow_le_pow_right (by decide) (by lia)
 have h2:=aAM hn
 have h3 : pr ns * pr ns ≤ 32 * 32:=Nat.mul_le_mul hp hp
 have h4 : (3 : Nat) ^ 9 = 19683:=by decide
 lia
theorem aBE {ns : List Nat} (hn : ∀ x∈ns,2 ≤ x) (h0 : ns ≠ []) (hp : pr ns ≤ 32) : Fine (pr ns) (dbl ((boxQ ns).map ci2)):=by
 have hpos : ∀ x∈ns,0 < x:=fun x hx=>by have:=hn x hx; lia
 have q : ∀ q∈boxQ ns,q.1 < q.2∧q.2 < pr ns:=fun q hq=>by
  obtain ⟨a,b⟩:=oB.mp hq
  exact u_lt hpos b a
 have n1 : 2 ≤ pr ns:=by
  cases ns with
  | nil=>exact absurd rfl h0
  | cons n ns =>
   have h2:=hn n List.mem_cons_self
   have : ∀ {l : List Nat},(∀ x∈l,2 ≤ x)→1 ≤ pr l:=fun {l}=>by
    induction l with
    | nil=>intro _; exact Nat.le_refl _
    | cons x l ih=>intro hl; exact Nat.mul_pos (by have:=hl x List.mem_cons_self; lia) (ih fun y hy=>hl y (List.mem_cons_of_mem _ hy))
   have h3:=this (l:=ns) fun x hx=>hn x (List.mem_cons_of_mem _ hx)
   show 2 ≤ n * pr ns
   exact Nat.le_trans h2 (Nat.le_mul_of_pos_right n h3)
 have mem : ∀ t∈dbl ((boxQ ns).map ci2),∃ q∈boxQ ns,t = ci2 q∨t = swp (ci2 q):=fun t ht=>by
  rcases jA.mp ht with z | z
  ·obtain ⟨q,hq,e⟩:=List.mem_map.mp z; exact ⟨q,hq,.inl e.symm⟩
  ·obtain ⟨q,hq,e⟩:=List.mem_map.mp z; exact ⟨q,hq,.inr (by rw [e])⟩
 have rg : ∀ t∈dbl ((boxQ ns).map ci2),((0 ≤ t.1∧t.1 < pr ns)∧(0 ≤ t.2∧t.2 < pr ns))∧t.1 ≠ t.2:=fun t ht=>by
  obtain ⟨p,hq,e⟩:=mem t ht
  obtain ⟨a,b⟩:=q p hq
  rcases e with rfl | rfl
  ·exact ⟨⟨⟨by show (0 : Int) ≤ (p.1 : Int); lia,by show (p.1 : Int) < (pr ns : Int); lia⟩,by show (0 : Int) ≤ (p.2 : Int); lia,by show (p.2 : Int) < (pr ns : Int); lia⟩,by show ((p.1 : Nat) : Int) ≠ (p.2 : Nat); lia⟩
  ·exact ⟨⟨⟨by show (0 : Int) ≤ (p.2 : Int); lia,by show (p.2 : Int) < (pr ns : Int); lia⟩,by show (0 : Int) ≤ (p.1 : Int); lia,by show (p.1 : Int) < (pr ns : Int); lia⟩,by show ((p.2 : Nat) : Int) ≠ (p.1 : Nat); lia⟩
 have nd : (dbl ((boxQ ns).map ci2)).Nodup:=aAJ (aAK (tP (by decide) hn)) fun u hu=>by
  obtain ⟨p,hq,rfl⟩:=List.mem_map.mp hu
  have:=(q p hq).1
  show (p.1 : Int) < (p.2 : Int)
  lia
 refine ⟨n1,hp,nd,fun t ht=>(rg t ht).1,fun t ht=>(rg t ht).2,fun h=>?_,fun h=>?_,fun a b ha hb=>?_⟩
 ·rw [← (wM (ps:=(boxQ ns).map ci2)).filter (fun t=>decide (t.1 = h)) |>.length_eq,List.filter_map,List.length_map]
  rfl
 ·by_cases c : 0 ≤ h∧h < pr ns
  ·have:=aAL (m:=pr ns) (h:=h.toNat) (ns:=ns) (st:=1) (by decide) hpos
   have e:=pI (h:=h.toNat) (qs:=boxQ ns)
   rw [Int.toNat_of_nonneg c.1] at e
   rw [e]
   exact Nat.le_trans this (aEy hn hp)
  ·have e : (dbl ((boxQ ns).map ci2)).filter (fun t=>decide (t.1 = h)) = []:=List.filter_eq_nil_iff.mpr fun t ht e=>c ((show t.1 = h from of_decide_eq_true e) ▸ (rg t ht).1.1)
   rw [e]; exact Nat.zero_le _
 ·have both : ∀ v,v < pr ns→(∃ k,Walk (dbl ((boxQ ns).map ci2)) k 0 v)∧∃ k,Walk (dbl ((boxQ ns).map ci2)) k v 0:=by
   intro v
   induction v using Nat.strongRecOn with
   | ind v ih =>
    intro hv
    rcases Nat.eq_zero_or_pos v with e | e
    ·subst e; exact ⟨⟨0,rfl⟩,0,rfl⟩
    ·obtain ⟨u,hu,uu⟩:=aAH hpos e hv
     obtain ⟨⟨k,w⟩,l,w'⟩:=ih u hu (by lia)
     have t : T (dbl ((boxQ ns).map ci2)) u v:=jA.mpr (.inl (List.mem_map.mpr ⟨(u,v),oB.mpr ⟨by show u < pr ns; lia,uu⟩,rfl⟩))
     have t' : T (dbl ((boxQ ns).map ci2)) v u:=wL t
     exact ⟨⟨k + 1,u,w,t⟩,l + 1,Walk.cons t' w'⟩
  obtain ⟨_,k,w⟩:=both a ha
  obtain ⟨⟨l,w'⟩,_⟩:=both b hb
  exact ⟨_,w.trans w'⟩
end NetM
namespace K12
open PySem L2
def top (i : Nat) : Stmt:=PySem.Challenge.pw_neverwait_k22_wrong_handings.main.body.getD i (.Pass ⟨0,0,0,0⟩)
abbrev tQ : Stmt:=top 6
abbrev pK : Stmt:=top 7
abbrev tR : Stmt:=top 8
abbrev sRow : Stmt:=top 10
structure Bl (mg : Str→Option Value) : Prop where
 isi : mg "isinstance" = none
 int : mg "int" = none
 bool : mg "bool" = none
 tup : mg "tuple" = none
 lst : mg "list" = none
 str : mg "str" = none
 set : mg "set" = none
 len : mg "len" = none
 range : mg "range" = none
 sorted : mg "sorted" = none
 any : mg "any" = none
 max : mg "max" = none
 min : mg "min" = none
 verr : mg "ValueError" = none
 all : mg "all" = none
def aBF (K : PySem.W.Frag) (H : Hp) (x : V) : Prop:=∃ t,TyX K H x t∧(PySem.W.kitOne K t (.type "int") = some false∨(PySem.W.kitOne K t (.type "int") = some true∧PySem.W.kitOne K t (.type "bool") = some true))
theorem mI {K : PySem.W.Frag} : PySem.W.kitOne K (.type "int") (.type "int") = some true:=by kernel_rfl
theorem kS {K : PySem.W.Frag} : PySem.W.kitOne K (.type "int") (.type "bool") = some false:=by kernel_rfl
inductive Wh (K : PySem.W.Frag) (H : Hp) : V→Option Int→Prop where
 | int (i : Int) : Wh K H (.int i) (some i)
 | no {x : V} (h : aBF K H x) : Wh K H x none
def lP (K : PySem.W.Frag) : Sp:=fun vs H Q _=>∃ x o,vs = [x]∧Wh K H x o∧Q (.bl o.isSome) H
section
variable {P : Program} {w : World} {K : PySem.W.Frag} {mg : Str→Option Value} {base : Heap}
theorem aCR : aZ ["thing"] ["thing"] (aM tQ):=⟨rfl,rfl,rfl,by decide +kernel,rfl,by decide +kernel,by decide +kernel⟩
theorem aBG {f : Addr} {fd : FuncData} (F : Fun K "is_whole" "is_whole" tQ f fd) (B : Bl mg) : FnOk P w K mg base CX0 1 f fd ["thing"] (lP K):=by
 refine F.ok aCR (fun vs H Q E h=>?_) (fun cdv A outer s H vs Q E hr h=>?_)
 ·obtain ⟨x,o,rfl,_⟩:=h
  rfl
 ·obtain ⟨x,o,rfl,W,k⟩:=h
  refine ⟨_,aG (aU (iT (aN dM (by rfl) B.isi PyProof.Rows.boot_isinstance (aA (pv 0) (aA (eI (v:=.ty "int") rfl B.int PyProof.Rows.boot_int rfl) aB)))
   (jW (aDx (aN dM (by rfl) B.isi PyProof.Rows.boot_isinstance (aA (pv 0) (aA (eI (v:=.ty "bool") rfl B.bool PyProof.Rows.boot_bool rfl) aB))))))),?_⟩
  cases W with
  | int i =>
   refine ⟨_,rfl,_,_,_,.type "int",true,rfl,⟨rfl,mI⟩,.of (.int _),true,rfl,?_⟩
   exact ⟨_,rfl,_,_,_,.type "int",false,rfl,⟨rfl,kS⟩,.of (.int _),false,rfl,k⟩
  | no h =>
   obtain ⟨t,ty,h | ⟨h1,h2⟩⟩:=h
   ·exact ⟨_,rfl,_,_,_,t,false,rfl,⟨rfl,h⟩,ty,false,rfl,k⟩
   ·refine ⟨_,rfl,_,_,_,t,true,rfl,⟨rfl,h1⟩,ty,true,rfl,?_⟩
    exact ⟨_,rfl,_,_,_,t,true,rfl,⟨rfl,h2⟩,ty,true,rfl,k⟩
end
section
variable {P : Program} {w : World} {K : PySem.W.Frag} {mg : Str→Option Value} {base : Heap}
def eW (o : Option Int) (lo hi : Int) : Bool:=match o with
 | some i=>decide (lo ≤ i) && decide (i ≤ hi)
 | none=>false
def jL (K : PySem.W.Frag) : Sp:=fun vs H Q _=>∃ x o lo hi,vs = [x,.int lo,.int hi]∧Wh K H x o∧Q (.bl (eW o lo hi)) H
theorem aBH : aZ ["thing", "least", "most"] ["thing", "least", "most"] (aM pK):=⟨rfl,rfl,rfl,by decide +kernel,rfl,by decide +kernel,by decide +kernel⟩
theorem aAN {f : Addr} {fd : FuncData} (F : Fun K "is_whole_within" "is_whole_within" pK f fd) (W : Cal P w K mg base CX0 1 "is_whole" ["thing"] (lP K)) : FnOk P w K mg base CX0 2 f fd ["thing", "least", "most"] (jL K):=by
 refine F.ok aBH (fun vs H Q E h=>?_) (fun cdv A outer s H vs Q E hr h=>?_)
 ·obtain ⟨x,o,lo,hi,rfl,_⟩:=h
  rfl
 ·obtain ⟨x,o,lo,hi,rfl,wh,k⟩:=h
  refine ⟨_,aG (aU (iT (aO W hr aR (aA (pv 0) aB)) (jW (aBh aB5 aB5 (pv 1) (pv 0) (pv 2))))),?_⟩
  refine ⟨_,rfl,x,o,rfl,wh,?_⟩
  cases wh with
  | no h=>exact ⟨false,rfl,k⟩
  | int i =>
   refine ⟨true,rfl,_,rfl,_,rfl,_,_,rfl,rfl,_,rfl,?_⟩
   show if decide (lo ≤ i) = true then _ else _
   have k' : Q (.bl (decide (lo ≤ i) && decide (i ≤ hi))) H:=k
   by_cases h : lo ≤ i
   ·rw [decide_eq_true h] at k' ⊢
    exact ⟨_,rfl,_,_,rfl,rfl,k'⟩
   ·rw [decide_eq_false h] at k' ⊢
    exact k'
def lQ (K : PySem.W.Frag) : Sp:=fun vs H Q _=>∃ x o n,vs = [.int n,x]∧Wh K H x o∧Q (.bl (eW o 0 (n - 1))) H
theorem aCS : aZ ["many", "thing"] ["many", "thing"] (aM tR):=⟨rfl,rfl,rfl,by decide +kernel,rfl,by decide +kernel,by decide +kernel⟩
theorem aBI {f : Addr} {fd : FuncData} (F : Fun K "is_house" "is_house" tR f fd) (W : Cal P w K mg base CX0 2 "is_whole_within" ["thing", "least", "most"] (jL K)) : FnOk P w K mg base CX0 3 f fd ["many", "thing"] (lQ K):=by
 refine F.ok aCS (fun vs H Q E h=>?_) (fun cdv A outer s H vs Q E hr h=>?_)
 ·obtain ⟨x,o,n,rfl,_⟩:=h
  rfl
 ·obtain ⟨x,o,n,rfl,wh,k⟩:=h
  refine ⟨_,aG (aU (aO W hr aR (aA (pv 1) (aA aI (aA (aY iU (pv 0) aI) aB))))),?_⟩
  exact ⟨_,rfl,_,rfl,_,_,rfl,rfl,x,o,0,n - 1,rfl,wh,k⟩
inductive Rw (K : PySem.W.Frag) (H : Hp) : V→Option (List V)→Prop where
 | tup {p : Addr} {xs : List V} (h : H p = some (.tup xs)) : Rw K H (.ref p) (some xs)
 | no {x : V} {t : Value} (ty : TyX K H x t) (h : PySem.W.kitOne K t (.type "tuple") = some false) : Rw K H x none
def aCe (o : Option (List V)) (m : Int) : Bool:=match o with
 | some xs=>decide ((xs.length : Int) = m)
 | none=>false
theorem lR {K : PySem.W.Frag} : PySem.W.kitOne K (.type "tuple") (.type "tuple") = some true:=by kernel_rfl
def rN (K : PySem.W.Frag) : Sp:=fun vs H Q _=>∃ x o m,vs = [x,.int m]∧Rw K H x o∧Q (.bl (aCe o m)) H
theorem aEz : aZ ["thing", "length"] ["thing", "length"] (aM sRow):=⟨rfl,rfl,rfl,by decide +kernel,rfl,by decide +kernel,by decide +kernel⟩
theorem aDR {f : Addr} {fd : FuncData} (F : Fun K "is_row" "is_row" sRow f fd) (B : Bl mg) : FnOk P w K mg base CX0 1 f fd ["thing", "length"] (rN K):=by
 refine F.ok aEz (fun vs H Q E h=>?_) (fun cdv A outer s H vs Q E hr h=>?_)
 ·obtain ⟨x,o,m,rfl,_⟩:=h
  rfl
 ·obtain ⟨x,o,m,rfl,W,k⟩:=h
  refine ⟨_,aG (aU (iT (aN dM (by rfl) B.isi PyProof.Rows.boot_isinstance (aA (pv 0) (aA (eI (v:=.ty "tuple") rfl B.tup PyProof.Rows.boot_tuple rfl) aB)))
   (jW (gR cP (aN aT (by rfl) B.len PySem.boot_len (aA (pv 0) aB)) (pv 1) (aV _))))),?_⟩
  cases W with
  | @tup p xs h =>
   refine ⟨_,rfl,_,_,_,.type "tuple",true,rfl,⟨rfl,lR⟩,.of (.tup h),true,rfl,?_⟩
   refine ⟨_,rfl,_,_,rfl,.inr (SqT.of h),_,rfl,rfl,?_⟩
   have e : decide (V.int ((xs.length : Nat) : Int) = V.int m) = decide (((xs.length : Nat) : Int) = m):=by simp
   rw [e]
   exact k
  | no ty h=>exact ⟨_,rfl,_,_,_,_,false,rfl,⟨rfl,h⟩,ty,false,rfl,k⟩
end
end K12
namespace K12
open PySem L2
theorem bV {D : Addr} {H H' : Hp} {o : HO} (s : Same H H') (hD : H D = none) : Same H (upd H' D o):=fun b u e=>by rw [aH (aJ e hD)]; exact s b u e
abbrev IV (ns : List Int) : List V:=ns.map V.int
abbrev NV (ns : List Nat) : List V:=ns.map fun (x : Nat)=>V.int (x : Int)
theorem iK {t u : TS} {D : Ends} {σ : St} {H : Hp} (G : St→Hp→Prop) (hr : ∀ σ H,G σ H→u D σ H) (ht : ∀ N : St→Hp→Prop,(∀ σ H,G σ H→N σ H)→t { D with nx:=N } σ H) : tSeq t u D σ H:=ht _ hr
abbrev Zs:=List (Addr × (Int × Int))
abbrev prT (u : Int × Int) : HO:=.tup [.int u.1,.int u.2]
def zr (zs : Zs) : List V:=zs.map fun z=>V.ref z.1
def zp (zs : Zs) : List (Int × Int):=zs.map (·.2)
def PO (H : Hp) (zs : Zs) : Prop:=∀ z∈zs,H z.1 = some (prT z.2)
theorem dD {a b : Zs} : zr (a ++ b) = zr a ++ zr b:=List.map_append
theorem dE {a b : Zs} : zp (a ++ b) = zp a ++ zp b:=List.map_append
theorem cF {a : Zs} : (zr a).length = a.length:=List.length_map _
theorem bJ {a : Zs} : (zp a).length = a.length:=List.length_map _
theorem jB {a : Zs} : zr a = (a.map (·.1)).map V.ref:=by unfold zr; rw [List.map_map]; rfl
theorem jC {zs : Zs} {i : Nat} {x : V} (h : (zr zs)[i]? = some x) : ∃ z,zs[i]? = some z∧x = .ref z.1:=by
 unfold zr at h
 rw [List.getElem?_map] at h
 cases e : zs[i]? with
 | none=>rw [e] at h; cases h
 | some z=>rw [e] at h; exact ⟨z,rfl,(Option.some.inj h).symm⟩
theorem PO.nil {H : Hp} : PO H []:=fun z hz=>(nomatch hz)
theorem PO.same {H H' : Hp} {zs : Zs} (h : PO H zs) (s : Same H H') : PO H' zs:=fun z hz=>s _ _ (h z hz)
theorem PO.putL {H : Hp} {D : Addr} {xs : List V} {o : HO} {zs : Zs} (h : PO H zs) (e : H D = some (.lst xs)) : PO (upd H D o) zs:=fun z hz=>by
 have:=h z hz
 rw [aH (by rintro rfl; rw [e] at this; cases this)]; exact this
theorem PO.putN {H : Hp} {D : Addr} {o : HO} {zs : Zs} (h : PO H zs) (e : H D = none) : PO (upd H D o) zs:=h.same (aF e)
theorem PO.append {H : Hp} {a b : Zs} (h : PO H a) (h' : PO H b) : PO H (a ++ b):=fun z hz=>(List.mem_append.mp hz).elim (h z) (h' z)
theorem PO.one {H : Hp} {p : Addr} {u : Int × Int} (h : H p = some (prT u)) : PO H [(p,u)]:=fun z hz=>by rw [List.mem_singleton.mp hz]; exact h
theorem tS {zs : Zs} {i : Nat} (h : i < zs.length) : (zs.map (·.1)).getD i 0 = zs[i].1:=by
 rw [List.getD_eq_getElem?_getD,List.getElem?_map,List.getElem?_eq_getElem h]; rfl
theorem wR {zs : Zs} {i : Nat} (h : i < zs.length) : (zp zs).getD i (0,0) = zs[i].2:=by
 unfold zp
 rw [List.getD_eq_getElem?_getD,List.getElem?_map,List.getElem?_eq_getElem h]; rfl
theorem aAO {H : Hp} {zs : Zs} (ho : PO H zs) : ∃ g : Addr→Int × Int,(∀ z∈zs,g z.1 = z.2)∧∀ {as : List Addr},as.Perm (zs.map (·.1))→∃ zs' : Zs,zs'.Perm zs∧as = zs'.map (·.1):=by
 classical
 let f : Addr→Int × Int:=fun a=>match H a with
  | some (.tup [.int x,.int y])=>(x,y)
  | _=>(0,0)
 have e2 : ∀ z∈zs,f z.1 = z.2:=fun z hz=>by
  show (match H z.1 with | some (.tup [.int x,.int y])=>(x,y) | _=>(0,0)) = z.2
  rw [ho z hz]
 have e : (zs.map (·.1)).map (fun a=>(a,f a)) = zs:=by
  rw [List.map_map]
  conv=>rhs; rw [← List.map_id zs]
  refine List.map_congr_left fun z hz=>?_
  show (z.1,f z.1) = z
  rw [e2 z hz]
 refine ⟨f,e2,fun {as} h=>⟨as.map fun a=>(a,f a),?_,?_⟩⟩
 ·have:=h.map (fun a=>(a,f a))
  rw [e] at this
  exact this
 ·rw [List.map_map]
  exact (List.map_id as).symm
abbrev Ord (us : List (Int × Int)) : Prop:=us.Pairwise fun u v=>pk u ≤ pk v
theorem aCT {K : PySem.W.Frag} {H : Hp} {l : Addr} {zs : Zs} {Q : VK} (hl : H l = some (.lst (zr zs))) (ho : PO H zs) (hz : zs.length ≤ 4096) (hb : ∀ u∈zp zs,0 ≤ u.2∧u.2 < 64) (q : ∀ (D : Addr) (zs' : Zs),H D = none→zs'.Perm zs→Ord (zp zs')→Q (.ref D) (upd H D (.lst (zr zs')))) : aAC K [.ref l] H Q:=by
 obtain ⟨g,hg,lift⟩:=aAO ho
 refine ⟨l,zs.map (·.1),g,rfl,SqL.of (by rw [← jB]; exact hl),fun a ha=>?_,by rw [List.length_map]; exact hz,fun D as' hD hp so=>?_⟩
 ·obtain ⟨z,hz,rfl⟩:=List.mem_map.mp ha
  rw [hg z hz]
  exact ⟨SqT.of (ho z hz),hb _ (List.mem_map.mpr ⟨z,hz,rfl⟩)⟩
 ·obtain ⟨zs',h1,rfl⟩:=lift hp
  rw [← jB]
  refine q D zs' hD h1 ?_
  unfold zp Ord
  rw [List.pairwise_map] at so ⊢
  refine so.imp_of_mem fun {a b} ha hb h=>?_
  rw [hg a (h1.mem_iff.mp ha),hg b (h1.mem_iff.mp hb)] at h
  exact h
theorem jM {lo : Int} {n : Nat} {D : Addr} {g : TG} {tt : TT} {te : TE} {fin : Hp→Prop} {σB : St} {H0 : Hp} (F : Nat→Int × Int) (shape : St→Prop) (hD : H0 D = none) (hn : n ≤ 100000) (h0 : shape σB)
  (hs : ∀ i σ H (R : V→St→Hp→Prop) (Kf : St→Hp→Prop),i < n→shape σ→Same H0 H→(∀ σ2 p,shape σ2→H p = none→R (.ref p) σ2 (upd H p (prT (F i))))→g (.int (lo + i)) σ H fun σ2 H2=>tt σ2 H2 fun b H3=>if b = true then te σ2 H3 fun v H4=>R v σ2 H4 else Kf σ2 H3)
  (hd : ∀ zs H,Same H0 H→H D = some (.lst (zr zs))→PO H zs→zp zs = (List.range n).map F→(∀ z∈zs,H0 z.1 = none)→fin H) : dL (Itr lo n) g tt te D fin σB (upd H0 D (.lst [])):=by
 refine dO (fun i ys σ H=>shape σ∧Same H0 H∧H D = some (.lst ys)∧∃ zs : Zs,ys = zr zs∧PO H zs∧zp zs = (List.range i).map F∧∀ z∈zs,H0 z.1 = none) ⟨h0,aF hD,aD,[],rfl,PO.nil,rfl,fun z hz=>nomatch hz⟩ ?_ ?_
 ·rintro i ys σ H Kt Kf hi ⟨sh,sm,hDl,zs,rfl,po,ep,fr⟩ kt kf
  have hl : zs.length = i:=by rw [← bJ,ep,List.length_map,List.length_range]
  refine hs i σ H Kt Kf hi sh sm (fun σ2 p sh2 hp=>?_)
  ·have nD : D ≠ p:=aJ hDl hp
   refine kt _ _ _ (by rw [aH nD]; exact hDl) (by rw [cF,hl]; exact Nat.lt_of_lt_of_le hi (Nat.le_trans hn (by decide))) ⟨sh2,bV (sm.trans (aF hp)) hD,aD,zs ++ [(p,F i)],?_,?_,?_,?_⟩
   ·rw [dD]; rfl
   ·refine PO.putL (xs:=zr zs) ?_ (by rw [aH nD]; exact hDl)
    exact (po.putN hp).append (PO.one aD)
   ·rw [dE,ep,List.range_succ,List.map_append]; rfl
   ·intro z hz
    rcases List.mem_append.mp hz with z' | z'
    ·exact fr z z'
    ·rw [List.mem_singleton.mp z']; exact sm.free hp
 ·rintro ys σ H ⟨_,sm,hDl,zs,rfl,po,ep,fr⟩
  exact hd zs H sm hDl po ep fr
theorem aBJ {K : PySem.W.Frag} {a D : Addr} {zs0 : Zs} {g : TG} {tt : TT} {te : TE} {fin : Hp→Prop} {σB : St} {H0 : Hp} (F : Int × Int→Int × Int) (shape : St→Prop) (ha : H0 a = some (.lst (zr zs0))) (hp0 : PO H0 zs0) (hD : H0 D = none) (hn : zs0.length ≤ 100000) (h0 : shape σB)
  (hs : ∀ z σ H (R : V→St→Hp→Prop) (Kf : St→Hp→Prop),z∈zs0→shape σ→H z.1 = some (prT z.2)→(∀ σ2 p,shape σ2→H p = none→R (.ref p) σ2 (upd H p (prT (F z.2))))→g (.ref z.1) σ H fun σ2 H2=>tt σ2 H2 fun b H3=>if b = true then te σ2 H3 fun v H4=>R v σ2 H4 else Kf σ2 H3)
  (hd : ∀ zs H,Same H0 H→H D = some (.lst (zr zs))→PO H zs→zp zs = (zp zs0).map F→(∀ z∈zs,H0 z.1 = none)→fin H) : dL (Itl K a) g tt te D fin σB (upd H0 D (.lst [])):=by
 refine dC (xs:=zr zs0) (fun i ys σ H=>shape σ∧Same H0 H∧H D = some (.lst ys)∧∃ zs : Zs,ys = zr zs∧PO H zs∧zp zs = ((zp zs0).take i).map F∧∀ z∈zs,H0 z.1 = none) ⟨h0,aF hD,aD,[],rfl,PO.nil,rfl,fun z hz=>nomatch hz⟩ (fun i ys σ H _ z=>SqL.of (z.2.1 _ _ ha)) ?_ ?_
 ·rintro i x ys σ H Kt Kf hx ⟨sh,sm,hDl,zs,rfl,po,ep,fr⟩ kt kf
  obtain ⟨z,hz,rfl⟩:=jC hx
  have hi : i < zs0.length:=(List.getElem?_eq_some_iff.mp hz).1
  have hzm : z∈zs0:=List.mem_of_getElem? hz
  have hl : zs.length = i:=by rw [← bJ,ep,List.length_map,List.length_take,bJ]; lia
  refine hs z σ H Kt Kf hzm sh (sm _ _ (hp0 z hzm)) (fun σ2 p sh2 hp=>?_)
  ·have nD : D ≠ p:=aJ hDl hp
   refine kt _ _ _ (by rw [aH nD]; exact hDl) (by rw [cF,hl]; exact Nat.lt_of_lt_of_le hi (Nat.le_trans hn (by decide))) ⟨sh2,bV (sm.trans (aF hp)) hD,aD,zs ++ [(p,F z.2)],?_,?_,?_,?_⟩
   ·rw [dD]; rfl
   ·refine PO.putL (xs:=zr zs) ?_ (by rw [aH nD]; exact hDl)
    exact (po.putN hp).append (PO.one aD)
   ·have e2 : (zp zs0)[i]? = some z.2:=by unfold zp; rw [List.getElem?_map,hz]; rfl
    rw [dE,ep,List.take_add_one,e2,Option.toList_some,List.map_append]; rfl
   ·intro z hz
    rcases List.mem_append.mp hz with z' | z'
    ·exact fr z z'
    ·rw [List.mem_singleton.mp z']; exact sm.free hp
 ·rintro ys σ H ⟨_,sm,hDl,zs,rfl,po,ep,fr⟩
  rw [cF,← bJ,List.take_length] at ep
  exact hd zs H sm hDl po ep fr
end K12
namespace K12
open PySem L2
open NetM
abbrev rO : Stmt:=pB (top 18) 0
abbrev sOut : Stmt:=pB (top 18) 3
abbrev tT : Stmt:=pB (top 18) 8
theorem n12 : ¬ (("house_count" : Str) = "tie_list"):=by decide +kernel
theorem n13 : ¬ (("house_count" : Str) = "out_lists"):=by decide +kernel
theorem n14 : ¬ (("house_count" : Str) = "distances"):=by decide +kernel
theorem n34 : ¬ (("out_lists" : Str) = "distances"):=by decide +kernel
def flds (n : Int) (tl ol ds : Addr) : List (Str × V):=putF "distances" (.ref ds) (putF "out_lists" (.ref ol) (putF "tie_list" (.ref tl) (putF "house_count" (.int n) [])))
theorem aCU (n : Int) (tl ol ds : Addr) : (flds n tl ol ds).lookup ("house_count" : Str) = some (.int n):=by
 unfold flds
 rw [bS,if_neg n14,bS,if_neg n13,bS,if_neg n12,bS,if_pos rfl]
theorem wS (n : Int) (tl ol ds : Addr) {m : Str} (h1 : ¬ m = "house_count") (h2 : ¬ m = "tie_list") (h3 : ¬ m = "out_lists") (h4 : ¬ m = "distances") : (flds n tl ol ds).lookup m = none:=by
 unfold flds
 rw [bS,if_neg h4,bS,if_neg h3,bS,if_neg h2,bS,if_neg h1]
 all_goals rfl
theorem aCV (n : Int) (tl ol ds : Addr) : (flds n tl ol ds).lookup ("out_lists" : Str) = some (.ref ol):=by
 unfold flds
 rw [bS,if_neg n34,bS,if_pos rfl]
def bT (H : Hp) (L : Addr→Prop) (l : Addr) (n : Nat) (r : Nat→List Nat) : Prop:=∃ bs : List Addr,H l = some (.lst (bs.map V.ref))∧(∀ b∈bs,L b)∧Holds H bs n (fun h=>.lst (NV (r h)))
theorem bT.keep {H H' : Hp} {L : Addr→Prop} {l : Addr} {n : Nat} {r : Nat→List Nat} (R : bT H L l n r) (hl : L l) (k : ∀ b o,L b→H b = some o→H' b = some o) : bT H' L l n r :=
 let ⟨bs,a,b,c⟩:=R
 ⟨bs,k _ _ hl a,b,c.mono fun j hj e=>k _ _ (b _ (by rw [List.getD_eq_getElem?_getD,List.getElem?_eq_getElem (by rw [c.1]; exact hj)]; exact List.getElem_mem _)) e⟩
theorem bT.row {H : Hp} {L : Addr→Prop} {l : Addr} {n : Nat} {r : Nat→List Nat} (R : bT H L l n r) {h : Nat} (hh : h < n) : ∃ (bs : List Addr) (b : Addr),H l = some (.lst (bs.map V.ref))∧(bs.map V.ref)[h]? = some (V.ref b)∧H b = some (.lst (NV (r h)))∧L b:=by
 obtain ⟨bs,a,b,c⟩:=R
 have hl : h < bs.length:=by rw [c.1]; exact hh
 refine ⟨bs,bs[h],a,by rw [List.getElem?_map,List.getElem?_eq_getElem hl]; rfl,?_,b _ (List.getElem_mem _)⟩
 have:=c.2 h hh
 rw [List.getD_eq_getElem?_getD,List.getElem?_eq_getElem hl] at this
 exact this
def TieL (H : Hp) (L : Addr→Prop) (tl : Addr) (ts : Ts) : Prop:=L tl∧∃ zs : Zs,H tl = some (.lst (zr zs))∧PO H zs∧(∀ z∈zs,L z.1)∧(zp zs).Perm ts∧Ord (zp zs)
theorem TieL.keep {H H' : Hp} {L : Addr→Prop} {tl : Addr} {ts : Ts} (h : TieL H L tl ts) (k : ∀ b o,L b→H b = some o→H' b = some o) : TieL H' L tl ts :=
 let ⟨a,zs,b,c,d,e⟩:=h; ⟨a,zs,k _ _ a b,fun z hz=>k _ _ (d z hz) (c z hz),d,e⟩
structure fL (C : Addr) (H : Hp) (L : Addr→Prop) (p : Addr) (n : Nat) (ts : Ts) : Prop where
 fine : Fine n ts
 ob : ∃ dx tl ol ds,H p = some (.ins C dx (flds n tl ol ds))∧L ol∧L ds∧bT H L ol n (outN n ts)∧bT H L ds n (fun h=>(List.range n).map (far ts h))∧TieL H L tl ts
theorem fL.keep {C : Addr} {H H' : Hp} {L : Addr→Prop} {p : Addr} {n : Nat} {ts : Ts} (N : fL C H L p n ts) (k : ∀ b o,L b→H b = some o→H' b = some o) (kp : ∀ o,H p = some o→H' p = some o) : fL C H' L p n ts :=
 let ⟨dx,tl,ol,ds,a,l1,l2,b,c,d⟩:=N.ob
 ⟨N.fine,dx,tl,ol,ds,kp _ a,l1,l2,b.keep l1 k,c.keep l2 k,d.keep k⟩
theorem fL.same {C : Addr} {H H' : Hp} {L : Addr→Prop} {p : Addr} {n : Nat} {ts : Ts} (N : fL C H L p n ts) (s : Same H H') : fL C H' L p n ts:=N.keep (fun b o _ e=>s b o e) (fun o e=>s _ o e)
structure NT (K : PySem.W.Frag) (mg : Str→Option Value) (C : Addr) : Prop where
 cl : Cls K C
 nH : eU K C "house_count"
 nT : eU K C "tie_list"
 nO : eU K C "out_lists"
 nD : eU K C "distances"
 mgC : mg "Net" = some (.ref C)
structure MCal (P : Program) (w : World) (K : PySem.W.Frag) (mg : Str→Option Value) (base : Heap) (CX : CXT) (k : Nat) (C : Addr) (x : Str) (ps : List Str) (sp : Sp) : Prop where
 ex : ∃ f fd,Meth K C x f∧fG K fd ps []∧FnOk P w K mg base CX k f fd ps sp
section
variable {P : Program} {w : World} {K : PySem.W.Frag} {mg : Str→Option Value} {base : Heap}
theorem aCW : aZ ["self", "thing"] ["self", "thing"] (aM tT):=⟨rfl,rfl,rfl,by decide +kernel,rfl,by decide +kernel,by decide +kernel⟩
theorem aAP {i n : Nat} (h : i < n) : eW (some (i : Int)) 0 ((n : Int) - 1) = true:=by unfold eW; simp; lia
def mT (C : Addr) : Sp:=fun vs H Q _=>∃ (L : Addr→Prop) (p : Addr) (n : Nat) (ts : Ts) (i : Nat),vs = [.ref p,.int i]∧fL C H L p n ts∧i < n∧Q .non H
theorem aAQ {f C : Addr} {fd : FuncData} (F : Fun K "check_house" "Net.check_house" tT f fd) (T : NT K mg C) (HH : Cal P w K mg base CX0 3 "is_house" ["many", "thing"] (lQ K)) :
  FnOk P w K mg base CX0 4 f fd ["self", "thing"] (mT C):=by
 refine F.ok aCW (fun vs H Q E h=>?_) (fun cdv A outer s H vs Q E hr h=>?_)
 ·obtain ⟨L,p,n,ts,i,rfl,_⟩:=h
  rfl
 ·obtain ⟨L,p,n,ts,i,rfl,N,hi,k⟩:=h
  obtain ⟨dx,tl,ol,ds,h1,_⟩:=N.ob
  refine ⟨_,aG (bG (eC (cU (aO HH hr aR (aA (nI (pv 0) rfl) (aA (pv 1) aB))))) dI aW),?_⟩
  refine ⟨_,rfl,p,C,dx,_,_,rfl,h1,T.cl,T.nH,aCU _ _ _ _,_,rfl,_,some (i : Int),n,rfl,.int _,_,rfl,?_⟩
  rw [aAP hi]
  exact iteF k
theorem nchk (n : Int) (tl ol ds : Addr) : (flds n tl ol ds).lookup ("check_house" : Str) = none:=wS n tl ol ds (by decide +kernel) (by decide +kernel) (by decide +kernel) (by decide +kernel)
theorem aDS {xs : List Nat} {i : Nat} (h : i < xs.length) : (NV xs)[i]? = some (.int ((xs[i] : Nat) : Int)):=by rw [List.getElem?_map,List.getElem?_eq_getElem h]; rfl
theorem bD {xs : List Nat} : (NV xs).length = xs.length:=List.length_map _
theorem aEA : aZ ["self", "house"] ["self", "house"] (aM sOut):=⟨rfl,rfl,rfl,by decide +kernel,rfl,by decide +kernel,by decide +kernel⟩
def tU (C : Addr) : Sp:=fun vs H Q _=>∃ (L : Addr→Prop) (p : Addr) (n : Nat) (ts : Ts) (i : Nat),vs = [.ref p,.int i]∧fL C H L p n ts∧i < n∧∀ r H',Same H H'→H r = none→H' r = some (.lst (NV (outN n ts i)))→Q (.ref r) H'
theorem aCX {f C : Addr} {fd : FuncData} (F : Fun K "out" "Net.out" sOut f fd) (T : NT K mg C) (B : Bl mg) (M : MCal P w K mg base CX0 4 C "check_house" ["self", "thing"] (mT C)) :
  FnOk P w K mg base CX0 5 f fd ["self", "house"] (tU C):=by
 obtain ⟨fM,fdM,mM,bM,GM⟩:=M.ex
 refine F.ok aEA (fun vs H Q E h=>?_) (fun cdv A outer s H vs Q E hr h=>?_)
 ·obtain ⟨L,p,n,ts,i,rfl,_⟩:=h
  rfl
 ·obtain ⟨L,p,n,ts,i,rfl,N,hi,k2⟩:=h
  obtain ⟨dx,tl,ol,ds,h1,_,_,R,_⟩:=N.ob
  refine ⟨_,aE (cM (vO (pv 0) T.cl mM GM hr bM .nil aR (aA (pv 1) aB)))
   (aG (aU (cT kC (by rfl) B.lst PyProof.Rows.boot_list (aA (aX bB (nI (pv 0) rfl) (pv 1) (fun _ _=>rfl)) aB)))),?_⟩
  refine ⟨_,rfl,p,dx,_,rfl,h1,nchk _ _ _ _,_,rfl,L,p,n,ts,i,rfl,N,hi,?_⟩
  obtain ⟨bs,b,r1,r2,r3,_⟩:=R.row hi
  exact ⟨_,rfl,p,C,dx,_,_,rfl,h1,T.cl,T.nO,aCV _ _ _ _,_,rfl,ol,_,_,_,rfl,rfl,SqL.of r1,aP r2,b,_,rfl,.inl (SqL.of r3),fun l hl=>k2 l _ (aF hl) hl aD⟩
end
end K12
namespace K12
open PySem L2 NetM
abbrev tV : Stmt:=top 19
abbrev sTie : Stmt:=top 20
abbrev sBal : Stmt:=top 21
section
variable {P : Program} {w : World} {K : PySem.W.Frag} {mg : Str→Option Value} {base : Heap}
abbrev sUnl : Stmt:=top 9
theorem aEB : aZ ["many", "one", "other"] ["many", "one", "other"] (aM sUnl):=⟨rfl,rfl,rfl,by decide +kernel,rfl,by decide +kernel,by decide +kernel⟩
def yJ : Sp:=fun vs H Q _=>∃ (n a b : Int),vs = [.int n,.int a,.int b]∧0 ≤ a∧a < n∧0 ≤ b∧b < n∧a ≠ b∧Q (.bl true) H
theorem aDT {f : Addr} {fd : FuncData} (F : Fun K "are_unlike_houses" "are_unlike_houses" sUnl f fd) (HH : Cal P w K mg base CX0 3 "is_house" ["many", "thing"] (lQ K)) :
  FnOk P w K mg base CX0 4 f fd ["many", "one", "other"] yJ:=by
 refine F.ok aEB (fun vs H Q E h=>?_) (fun cdv A outer s H vs Q E hr h=>?_)
 ·obtain ⟨n,a,b,rfl,_⟩:=h
  rfl
 ·obtain ⟨n,a,b,rfl,a1,a2,b1,b2,hne,k⟩:=h
  refine ⟨_,aG (aU (iT (aO HH hr aR (aA (pv 0) (aA (pv 1) aB))) (iT (aO HH hr aR (aA (pv 0) (aA (pv 2) aB))) (jW (gR gE (pv 1) (pv 2) (aV _)))))),?_⟩
  refine ⟨_,rfl,_,rfl,_,_,n,rfl,.int a,_,rfl,?_⟩
  rw [if_pos (show eW (some a) 0 (n - 1) = true by unfold eW; simp; lia)]
  refine ⟨_,rfl,_,rfl,_,_,n,rfl,.int b,_,rfl,?_⟩
  rw [if_pos (show eW (some b) 0 (n - 1) = true by unfold eW; simp; lia)]
  refine ⟨_,rfl,_,rfl,rfl,?_⟩
  have e : (!decide (V.int a = V.int b)) = true:=by simp [hne]
  rw [e]
  exact k
theorem aEC : aZ ["many", "thing"] ["many", "thing"] (aM sTie):=⟨rfl,rfl,rfl,by decide +kernel,rfl,by decide +kernel,by decide +kernel⟩
def yK : Sp:=fun vs H Q _=>∃ (n : Int) (p : Addr) (a b : Int),vs = [.int n,.ref p]∧H p = some (.tup [.int a,.int b])∧0 ≤ a∧a < n∧0 ≤ b∧b < n∧a ≠ b∧Q (.bl true) H
theorem aDU {f : Addr} {fd : FuncData} (F : Fun K "is_tie" "is_tie" sTie f fd) (R : Cal P w K mg base CX0 1 "is_row" ["thing", "length"] (rN K)) (U : Cal P w K mg base CX0 4 "are_unlike_houses" ["many", "one", "other"] yJ) :
  FnOk P w K mg base CX0 5 f fd ["many", "thing"] yK:=by
 refine F.ok aEC (fun vs H Q E h=>?_) (fun cdv A outer s H vs Q E hr h=>?_)
 ·obtain ⟨n,p,a,b,rfl,_⟩:=h
  rfl
 ·obtain ⟨n,p,a,b,rfl,hp,a1,a2,b1,b2,hne,k⟩:=h
  refine ⟨_,aG (aU (iT (aO R (hr.mono (by decide)) aR (aA (pv 1) (aA aI aB)))
   (jW (aO U hr aR (aA (pv 0) (aA (aX cD (pv 1) aI (fun _ _=>rfl)) (aA (aX cD (pv 1) aI (fun _ _=>rfl)) aB))))))),?_⟩
  refine ⟨_,rfl,_,_,_,rfl,.tup hp,true,rfl,?_⟩
  exact ⟨_,rfl,_,rfl,p,_,_,_,rfl,rfl,SqT.of hp,aP (j:=0) rfl,_,rfl,p,_,_,_,rfl,rfl,SqT.of hp,aP (j:=1) rfl,n,a,b,rfl,a1,a2,b1,b2,hne,k⟩
theorem wT : aZ ["many", "ties", "tie"] ["many", "ties"] (aM tV):=⟨rfl,rfl,rfl,by decide +kernel,rfl,by decide +kernel,by decide +kernel⟩
theorem aBK {K : PySem.W.Frag} : PySem.W.kitOne K (.type "list") (.type "list") = some true:=by kernel_rfl
structure dU (H : Hp) (l : Addr) (n : Nat) (zs : Zs) : Prop where
 fine : Fine n (zp zs)
 at_ : H l = some (.lst (zr zs))
 po : PO H zs
theorem dU.same {H H' : Hp} {l : Addr} {n : Nat} {zs : Zs} (h : dU H l n zs) (s : Same H H') : dU H' l n zs:=⟨h.fine,s _ _ h.at_,h.po.same s⟩
def gY : Sp:=fun vs H Q _=>∃ (n : Nat) (l : Addr) (zs : Zs),vs = [.int n,.ref l]∧dU H l n zs∧∀ H',Same H H'→Q .non H'
theorem aBL {f : Addr} {fd : FuncData} (F : Fun K "check_ties" "check_ties" tV f fd) (B : Bl mg) (gF : ∃ t,mg "FEWEST_HOUSES" = some (.int 2 t)) (gM : ∃ t,mg "MOST_HOUSES" = some (.int 32 t))
  (W : Cal P w K mg base CX0 2 "is_whole_within" ["thing", "least", "most"] (jL K)) (T : Cal P w K mg base CX0 5 "is_tie" ["many", "thing"] yK) :
  FnOk P w K mg base CX0 6 f fd ["many", "ties"] gY:=by
 obtain ⟨tF,gF⟩:=gF
 obtain ⟨tM,gM⟩:=gM
 refine F.ok wT (fun vs H Q E h=>?_) (fun cdv A outer s H vs Q E hr h=>?_)
 ·obtain ⟨n,l,zs,rfl,_⟩:=h
  rfl
 ·refine ⟨_,aE (bG (eC (cU (aO W (hr.mono (by decide)) aR (aA (pv 0) (aA (oY (v:=.int 2) rfl gF ⟨_,rfl⟩) (aA (oY (v:=.int 32) rfl gM ⟨_,rfl⟩) aB)))))) dI aW)
   (aE (bG (eC (cU (aN dM (by rfl) B.isi PyProof.Rows.boot_isinstance (aA (pv 1) (aA (eI (v:=.ty "list") rfl B.lst PyProof.Rows.boot_list rfl) aB))))) dI aW)
   (aE (cA PassesOwn.never rfl (cC (pv 1)) (aL (i:=2) wT.nd rfl (Or.inl rfl)) (aG (bG (eC (cU (aO T hr aR (aA (pv 0) (aA (pv 2) aB))))) dI aW)))
   (aG (bG (aQ gE (aN uV (by rfl) B.len PySem.boot_len (aA (cT (aAm rfl (by have:=hr.un; show (A.deeper _).units + 8 < _; lia)) (by rfl) B.set PyProof.Rows.boot_set (aA (pv 1) aB)) aB)) (aN aT (by rfl) B.len PySem.boot_len (aA (pv 1) aB)) (aV _)) dI aW)))),?_⟩
  obtain ⟨n,l,zs,rfl,tt,k⟩:=h
  obtain ⟨fi,hl,po⟩:=id tt
  have n1:=fi.n1
  have n2:=fi.n2
  refine ⟨_,rfl,_,_,2,32,rfl,.int n,_,rfl,?_⟩
  rw [show eW (some (n : Int)) 2 32 = true by unfold eW; simp; lia]
  refine iteF ?_
  refine ⟨_,rfl,_,_,_,.type "list",true,rfl,⟨rfl,aBK⟩,.of (.lst hl),_,rfl,iteF ?_⟩
  refine ⟨_,rfl,l,rfl,⟨_,SqL.of hl⟩,jH (K:=K) (a:=l) (xs:=zr zs) (fun i σ H2=>H2 = H∧∃ v,σ = [some (.int n),some (.ref l),v]) ⟨rfl,none,rfl⟩ (fun i σ H2 _ ⟨e,_⟩=>by rw [e]; exact SqL.of hl) ?_ ?_⟩
  ·rintro i x σ H2 hx ⟨rfl,v,rfl⟩
   obtain ⟨z,hz,rfl⟩:=jC hx
   have hzm : z∈zs:=List.mem_of_getElem? hz
   have hzp : z.2∈zp zs:=List.mem_map.mpr ⟨z,hzm,rfl⟩
   have r:=fi.rg _ hzp
   exact ⟨_,rfl,_,rfl,n,_,_,_,rfl,po z hzm,r.1.1,r.1.2,r.2.1,r.2.2,fi.ne _ hzp,_,rfl,iteF ⟨rfl,_,rfl⟩⟩
  ·rintro σ H2 ⟨rfl,v,rfl⟩
   have hlen : (zp zs).length ≤ 256:=fi.len
   refine ⟨_,rfl,l,zs.map (·.1),zp zs,rfl,SqL.of (by rw [← jB]; exact hl),by rw [List.length_map,bJ],fun i hi=>?_,fi.nd,fun y hy=>?_,by lia,fun D hD=>?_⟩
   ·rw [bJ] at hi
    rw [tS hi,wR hi]
    exact SqT.of (po _ (List.getElem_mem hi))
   ·have r:=fi.rg _ hy
    lia
   ·have nl : l ≠ D:=aJ hl hD
    refine ⟨D,_,rfl,aD,by lia,_,rfl,l,zr zs,rfl,.inl (SqL.of (by rw [aH nl]; exact hl)),rfl,_,rfl,?_⟩
    have ez : (!decide (V.int (((zp zs).length : Nat) : Int) = V.int (((zr zs).length : Nat) : Int))) = false:=by rw [bJ,cF]; simp
    rw [ez]
    exact iteF (k _ (aF hD))
end
end K12
namespace K12
open PySem L2 NetM
abbrev oC : Stmt:=top 22
section
variable {P : Program} {w : World} {K : PySem.W.Frag} {mg : Str→Option Value} {base : Heap}
theorem kT {zs : Zs} {l D : Addr} {H : Hp} {g : TG} {tt : TT} {te : TE} {fin : Hp→Prop} {σB : St} (S : St→Prop) (p q : Int × Int→Int) (h : Int) (hD : H D = none) (hl : H l = some (.lst (zr zs))) (po : PO H zs) (hn : zs.length ≤ 1000) (s0 : S σB)
  (hg : ∀ z σ H2 (Kt : V→St→Hp→Prop) (Kf : St→Hp→Prop),z∈zs→S σ→H2 z.1 = some (prT z.2)→(∀ σ2,S σ2→p z.2 = h→Kt (.int (q z.2)) σ2 H2)→(∀ σ2,S σ2→p z.2 ≠ h→Kf σ2 H2) →
   g (.ref z.1) σ H2 fun σ2 H2=>tt σ2 H2 fun b H3=>if b = true then te σ2 H3 fun v H4=>Kt v σ2 H4 else Kf σ2 H3)
  (hd : fin (upd H D (.lst (IV (((zp zs).filter fun y=>decide (p y = h)).map q))))) : dL (Itl K l) g tt te D fin σB (upd H D (.lst [])):=by
 have nl : l ≠ D:=aJ hl hD
 have tk : ∀ {i : Nat} {z : Addr × (Int × Int)},zs[i]? = some z→(zp zs).take (i + 1) = (zp zs).take i ++ [z.2]:=fun {i z} hz=>by
  rw [List.take_add_one,show (zp zs)[i]? = some z.2 by unfold zp; rw [List.getElem?_map,hz]; rfl]; rfl
 refine dC (xs:=zr zs) (fun i ys σ H2=>S σ∧ys = IV ((((zp zs).take i).filter fun y=>decide (p y = h)).map q)∧H2 = upd H D (.lst ys)) ⟨s0,by simp,rfl⟩ (fun i ys σ H2 _ ⟨_,_,e⟩=>by rw [e]; exact SqL.of (by rw [aH nl]; exact hl)) ?_ ?_
 ·rintro i x ys σ H2 Kt Kf hx ⟨hS,ey,rfl⟩ kt kf
  obtain ⟨z,hz,rfl⟩:=jC hx
  have hzm : z∈zs:=List.mem_of_getElem? hz
  have hp:=po z hzm
  have na : z.1 ≠ D:=aJ hp hD
  have hi : i < zs.length:=(List.getElem?_eq_some_iff.mp hz).1
  refine hg z σ _ Kt Kf hzm hS (by rw [aH na]; exact hp) (fun σ2 s2 e=>?_) (fun σ2 s2 e=>?_)
  ·refine kt _ _ _ aD ?_ ⟨s2,?_,?_⟩
   ·rw [ey,List.length_map,List.length_map]
    exact Nat.lt_of_le_of_lt (List.length_filter_le _ _) (Nat.lt_of_le_of_lt (List.length_take_le _ _) (Nat.lt_of_lt_of_le (show i < 1000 by lia) (by decide)))
   ·rw [ey,tk hz,List.filter_append,List.map_append]
    have : decide (p z.2 = h) = true:=by simp [e]
    simp [List.filter_cons,this]
   ·rw [lB]
  ·refine kf _ _ ⟨s2,?_,rfl⟩
   have : decide (p z.2 = h) = false:=by simp [e]
   rw [ey,tk hz,List.filter_append]
   simp [List.filter_cons,this]
 ·rintro ys σ H2 ⟨_,ey,rfl⟩
  rw [cF,← bJ,List.take_length] at ey
  rw [ey]
  exact hd
theorem nb3 : (["one", "other", "house"] : List Str).Nodup:=by decide +kernel
theorem rP : aZ ["many", "ties", "house", "leading_out", "leading_in"] ["many", "ties"] (aM sBal):=⟨rfl,rfl,rfl,by decide +kernel,rfl,by decide +kernel,by decide +kernel⟩
theorem aDV {f : Addr} {fd : FuncData} (F : Fun K "check_balance" "check_balance" sBal f fd) (B : Bl mg) (gM : ∃ t,mg "MOST_TIES_OUT" = some (.int 8 t)) :
  FnOk P w K mg base CX0 1 f fd ["many", "ties"] gY:=by
 obtain ⟨tM,gM⟩:=gM
 refine F.ok rP (fun vs H Q E h=>?_) (fun cdv A outer s H vs Q E hr h=>?_)
 ·obtain ⟨n,l,zs,rfl,_⟩:=h
  rfl
 ·obtain ⟨n,l,zs,rfl,T,k⟩:=h
  have fi:=T.fine
  have n1:=fi.n1
  have n2:=fi.n2
  have hlen : zs.length ≤ 256:=by have:=fi.len; rw [bJ] at this; exact this
  refine' ⟨_,aG (cA PassesOwn.never rfl (bH rfl B.range (aA (pv 0) aB)) (aL (i:=2) rP.nd rfl (Or.inr rfl))
   (aE (aS (i:=3) rP.nd rfl (Or.inl rfl) (aN aT (by rfl) B.len PySem.boot_len (aA ?c1 aB)))
   (aE (aS (i:=4) rP.nd rfl (Or.inl rfl) (aN aT (by rfl) B.len PySem.boot_len (aA ?c2 aB)))
   (aE (bG (aQ gE (pv 3) (pv 4) (aV _)) dI aW)
   (aG (bG (aQ rJ (pv 3) (oY (v:=.int 8) rfl gM ⟨_,rfl⟩) (aV _)) dI aW)))))),?_⟩
  case c1 =>
   refine' bZ (g:=gTup K 2 (gB (bL 0) (gB (bL 1) gNil))) (NB:=["one", "other", "house"]) (src:=[none,none,some 2]) (bR (by kernel_rfl)) rfl (cC (pv 1)) ?g ?t ?e
   case g=>exact fun cl C s₃ H₃ fp=>dH (n:=2) rfl (bF (aL (i:=0) nb3 rfl (Or.inl rfl) (Or.inr rfl)) (bF (aL (i:=1) nb3 rfl (Or.inl rfl) (Or.inr rfl)) cN))
   case t=>exact fun cl C s₃ H₃ fp=>eN (aQ cP (pv 0) (pv 2) (aV _))
   case e=>exact fun cl C s₃ H₃ fp=>pv 0
  case c2 =>
   refine' bZ (g:=gTup K 2 (gB (bL 0) (gB (bL 1) gNil))) (NB:=["one", "other", "house"]) (src:=[none,none,some 2]) (bR (by kernel_rfl)) rfl (cC (pv 1)) ?g ?t ?e
   case g=>exact fun cl C s₃ H₃ fp=>dH (n:=2) rfl (bF (aL (i:=0) nb3 rfl (Or.inl rfl) (Or.inr rfl)) (bF (aL (i:=1) nb3 rfl (Or.inl rfl) (Or.inr rfl)) cN))
   case t=>exact fun cl C s₃ H₃ fp=>eN (aQ cP (pv 1) (pv 2) (aV _))
   case e=>exact fun cl C s₃ H₃ fp=>pv 1
  refine ⟨_,rfl,n,rfl,by lia,by lia,bY (n:=n) (lo:=0) (fun i σ H2=>Same H H2∧∃ a b c,σ = [some (.int n),some (.ref l),a,b,c]) ⟨Same.refl _,none,none,none,rfl⟩ ?_ ?_⟩
  ·rintro i σ H2 hi ⟨sm,a,b,c,rfl⟩
   have T2:=T.same sm
   refine ⟨_,rfl,l,rfl,⟨_,SqL.of T2.at_⟩,fun D hD=>kT (fun σ=>∃ a b,σ = [a,b,some (.int (0 + (i : Int)))]) (·.1) (·.1) (0 + (i : Int)) hD T2.at_ T2.po (by lia) ⟨_,_,rfl⟩ ?_ ?_⟩
   ·rintro z σ H3 Kt Kf hj ⟨x,y,rfl⟩ ha kt kf
    refine ⟨z.1,_,rfl,SqT.of ha,rfl,_,_,rfl,_,_,rfl,rfl,?_⟩
    refine ⟨_,rfl,_,rfl,rfl,_,rfl,?_⟩
    refine ite2 (fun e=>?_) (fun e=>?_)
    ·exact ⟨_,rfl,kt _ ⟨_,_,rfl⟩ (by simpa using e)⟩
    ·exact kf _ ⟨_,_,rfl⟩ (by simpa using e)
   ·refine ⟨D,_,rfl,.inl (SqL.of aD),?_⟩
    have sm2:=bV (o:=.lst (IV (((zp zs).filter fun y=>decide (y.1 = 0 + (i : Int))).map (·.1)))) (sm.trans (Same.refl _)) (H:=H) (by cases z : H D with | none=>rfl | some o=>rw [sm _ _ z] at hD; cases hD)
    have T3:=T.same sm2
    refine ⟨_,rfl,l,rfl,⟨_,SqL.of T3.at_⟩,fun D' hD'=>kT (fun σ=>∃ a b,σ = [a,b,some (.int (0 + (i : Int)))]) (·.2) (·.2) (0 + (i : Int)) hD' T3.at_ T3.po (by lia) ⟨_,_,rfl⟩ ?_ ?_⟩
    ·rintro z σ H3 Kt Kf hj ⟨x,y,rfl⟩ ha kt kf
     refine ⟨z.1,_,rfl,SqT.of ha,rfl,_,_,rfl,_,_,rfl,rfl,?_⟩
     refine ⟨_,rfl,_,rfl,rfl,_,rfl,?_⟩
     refine ite2 (fun e=>?_) (fun e=>?_)
     ·exact ⟨_,rfl,kt _ ⟨_,_,rfl⟩ (by simpa using e)⟩
     ·exact kf _ ⟨_,_,rfl⟩ (by simpa using e)
    ·refine ⟨D',_,rfl,.inl (SqL.of aD),?_⟩
     rw [Int.zero_add] at *
     have q1 : (IV (((zp zs).filter fun y=>decide (y.1 = (i : Int))).map (·.1))).length = (IV (((zp zs).filter fun y=>decide (y.2 = (i : Int))).map (·.2))).length:=by
      rw [List.length_map,List.length_map,List.length_map,List.length_map]; exact fi.bal i
     have q2 : (IV (((zp zs).filter fun y=>decide (y.1 = (i : Int))).map (·.1))).length ≤ 8:=by
      rw [List.length_map,List.length_map]; exact fi.most i
     refine ⟨_,rfl,_,rfl,rfl,_,rfl,?_⟩
     rw [← q1]
     rw [show (!decide (V.int (((IV (((zp zs).filter fun y=>decide (y.1 = (i : Int))).map (·.1))).length : Nat) : Int) = V.int (((IV (((zp zs).filter fun y=>decide (y.1 = (i : Int))).map (·.1))).length : Nat) : Int))) = false by simp]
     refine iteF ?_
     refine ⟨_,rfl,_,_,rfl,rfl,_,rfl,?_⟩
     rw [show decide ((((IV (((zp zs).filter fun y=>decide (y.1 = (i : Int))).map (·.1))).length : Nat) : Int) > 8) = false by rw [decide_eq_false_iff_not]; lia]
     exact iteF ⟨sm2.trans (aF hD'),_,_,_,rfl⟩
  ·rintro σ H2 ⟨sm,a,b,c,rfl⟩
   exact k H2 sm
end
end K12
namespace K12
open PySem L2 NetM
def lamE : Expr:=match (bQ oC).getD 1 (.Pass ⟨0,0,0,0⟩) with
 | .Return (some (.Call _ _ (k :: _) _)) _=>k.value
 | _=>.Name "x" ⟨0,0,0,0⟩
def aCY : Arguments:=match lamE with
 | .Lambda a _ _ _=>a
 | _=>{ posonlyargs:=[],args:=[],vararg:=none,kwonlyargs:=[],kw_defaults:=[],kwarg:=none,defaults:=[] }
def aCZ : Expr:=match lamE with
 | .Lambda _ b _ _=>b
 | e=>e
def aED : Scope:=match lamE with
 | .Lambda _ _ s _=>s
 | _=>{ kind:=.function,names:=[],isGenerator:=false,isCoroutine:=false }
def aDW : Pos:=match lamE with
 | .Lambda _ _ _ p=>p
 | _=>⟨0,0,0,0⟩
def aCf : Str:=("houses_out" : Str) ++ ".<locals>." ++ "<lambda>"
abbrev Tab (Pt : Addr) (H : Hp) : Prop:=xZ aDW aCf Pt H
def oE (Pt : Addr) (H H' : Hp) : Prop:=∀ b o,H b = some o→b ≠ Pt→H' b = some o
theorem oE.of {Pt : Addr} {H H' : Hp} (a : Same H H') : oE Pt H H':=fun c o h _=>a c o h
theorem Tab.not {Pt : Addr} {H : Hp} (t : Tab Pt H) {b : Addr} {o : HO} (h : H b = some o) (n : ∀ ps,o ≠ .tbl ps) : b ≠ Pt:=by
 rintro rfl
 rcases t with z | ⟨c,z,_⟩ <;> · rw [h] at z; exact n _ (Option.some.inj z)
theorem Tab.same {Pt : Addr} {H H' : Hp} (t : Tab Pt H) (e : Same H H') : Tab Pt H':=by
 rcases t with z | ⟨c,z,y⟩
 ·exact .inl (e _ _ z)
 ·exact .inr ⟨c,e _ _ z,e _ _ y⟩
theorem aC0 {n a b h : Int} (hn : 0 < n) (a0 : 0 ≤ a) (a1 : a < n) (b0 : 0 ≤ b) (b1 : b < n) (e : (a - h) % n = (b - h) % n) : a = b:=by
 have h1:=Int.emod_emod_of_dvd (a - h) (Int.dvd_refl n)
 have q : (a - b) % n = 0:=by
  have : a - b = (a - h) - (b - h):=by lia
  rw [this,Int.sub_emod,e,Int.sub_self,Int.zero_emod]
 obtain ⟨c,hc⟩:=Int.dvd_of_emod_eq_zero q
 have c0 : c = 0:=by
  rcases Int.lt_trichotomy c 0 with z | z | z
  ·have : n * c ≤ n * (-1):=Int.mul_le_mul_of_nonneg_left (by lia) (by lia)
   lia
  ·exact z
  ·have : n * 1 ≤ n * c:=Int.mul_le_mul_of_nonneg_left (by lia) (by lia)
   lia
 rw [c0] at hc
 lia
theorem rE {ts : Ts} {h : Int} (nd : ts.Nodup) : ((ts.filter fun y=>decide (y.1 = h)).map (·.2)).Nodup:=by
 refine L2.kL (nd.filter _) fun x hx y hy e=>?_
 have a:=(List.mem_filter.mp hx).2
 have b:=(List.mem_filter.mp hy).2
 simp at a b
 exact Prod.ext (a.trans b.symm) e
theorem aAR {n : Nat} {ts : Ts} {h : Nat} (F : Fine n ts) (hh : h < n) {out : List Int} (ko : KOut (h : Int) (n : Int) ((ts.filter fun y=>decide (y.1 = (h : Int))).map (·.2)) out) : out.map V.int = NV (outN n ts h):=by
 obtain ⟨ps,hp,rfl,hs⟩:=ko
 have hout : (ps.map (·.2)).Perm ((ts.filter fun y=>decide (y.1 = (h : Int))).map (·.2)):=by
  have:=hp.map (·.2)
  rw [List.map_map] at this
  refine this.trans (List.Perm.of_eq ?_)
  conv=>rhs; rw [← List.map_id ((ts.filter fun y=>decide (y.1 = (h : Int))).map (·.2))]
  rfl
 have mem : ∀ z,z∈ps.map (·.2)↔((h : Int),z)∈ts:=fun z=>by
  rw [hout.mem_iff,List.mem_map]
  constructor
  ·rintro ⟨y,hy,rfl⟩
   obtain ⟨y1,y2⟩:=List.mem_filter.mp hy
   have : y.1 = (h : Int):=by simpa using y2
   rw [← this]; exact y1
  ·intro hz
   exact ⟨_,List.mem_filter.mpr ⟨hz,by simp⟩,rfl⟩
 have nd : (ps.map (·.2)).Nodup:=hout.nodup_iff.mpr (rE F.nd)
 have key : ∀ q∈ps,q.1 = (q.2 - (h : Int)) % (n : Int):=fun q hq=>by
  obtain ⟨z,_,e⟩:=List.mem_map.mp (hp.mem_iff.mp hq)
  rw [← e]
 have hn : (0 : Int) < n:=by have:=F.n1; lia
 have sorted : (ps.map (·.2)).Pairwise fun x y=>(x - (h : Int)) % (n : Int) < (y - (h : Int)) % (n : Int):=by
  refine List.pairwise_map.mpr ?_
  have nd2:=List.pairwise_map.mp nd
  refine (hs.and nd2).imp_of_mem fun {x y} hx hy hxy=>?_
  have l1:=hxy.1
  rw [key x hx,key y hy] at l1
  have ax:=F.rg _ ((mem x.2).mp (List.mem_map.mpr ⟨x,hx,rfl⟩))
  have ay:=F.rg _ ((mem y.2).mp (List.mem_map.mpr ⟨y,hy,rfl⟩))
  have ne : (x.2 - (h : Int)) % (n : Int) ≠ (y.2 - (h : Int)) % (n : Int):=fun z=>hxy.2 (aC0 hn ax.2.1 ax.2.2 ay.2.1 ay.2.2 z)
  lia
 have e : ps.map (·.2) = (outN n ts h).map fun (o : Nat)=>(o : Int):=by
  refine mG (k:=fun z=>(z - (h : Int)) % (n : Int)) sorted ?_ fun z=>?_
  ·refine List.pairwise_map.mpr ?_
   exact vG hh
  ·rw [mem,List.mem_map]
   constructor
   ·intro hz
    have r:=F.rg _ hz
    refine ⟨z.toNat,(hZ F hh).mpr ?_,by lia⟩
    show (((h : Nat) : Int),((z.toNat : Nat) : Int))∈ts
    rw [show ((z.toNat : Nat) : Int) = z by lia]; exact hz
   ·rintro ⟨o,ho,rfl⟩
    exact (hZ F hh).mp ho
 rw [e,List.map_map]
 rfl
section
variable {P : Program} {w : World} {K : PySem.W.Frag} {mg : Str→Option Value} {base : Heap}
theorem aAS : aZ ["many", "ties", "house", "others"] ["many", "ties", "house"] (aM oC):=⟨rfl,rfl,rfl,by decide +kernel,rfl,by decide +kernel,by decide +kernel⟩
def oF (Pt : Addr) : Sp:=fun vs H Q _=>∃ (n : Nat) (l : Addr) (h : Nat) (zs : Zs),vs = [.int n,.ref l,.int h]∧h < n∧dU H l n zs∧Tab Pt H ∧
 ∀ (r : Addr) (H' : Hp),Tab Pt H'→oE Pt H H'→H r = none→H' r = some (.lst (NV (outN n (zp zs) h)))→Q (.ref r) H'
theorem aC1 {f c Pt : Addr} {fd : FuncData} (F : FunC K "houses_out" "houses_out" oC f fd c) (B : Bl mg) (kb : K.In base) (hb : BmOk mg base) (hc : PySem.W.codeHdIn K c Pt = true) :
  FnOk P w K mg base CX0 1 f fd ["many", "ties", "house"] (oF Pt):=by
 refine F.ok aAS (fun vs H Q E h=>?_) (fun A outer s H vs Q E hr h=>?_)
 ·obtain ⟨n,l,h,zs,rfl,_⟩:=h
  rfl
 ·obtain ⟨n,l,h,zs,rfl,hh,T,tb,k⟩:=h
  have fi:=T.fine
  have n1:=fi.n1
  have hlen : zs.length ≤ 256:=by have:=fi.len; rw [bJ] at this; exact this
  have LS : LamS (cxOf CX0 P w K mg base ["many", "ties", "house", "others"] "houses_out" (aM oC) f (.ref c) A outer s H E).nox aCf aCY aCZ aED "other" "house" "many" 2 0 :=
   ⟨⟨_,_,_,_,_,rfl⟩,fun _ _ _ _ _=>rfl,rfl,rfl,rfl,rfl,rfl,rfl,rfl,by decide +kernel,by decide +kernel,by decide +kernel,rfl,rfl,rfl,by decide,⟨by decide,by decide⟩,⟨by decide,by decide⟩⟩
  refine' ⟨_,aE (dB (i:=3) (g:=gTup K 2 (gB (bL 0) (gB (bL 1) gNil))) (NB:=["one", "other", "house"]) (src:=[none,none,some 2]) (bR (by kernel_rfl)) rfl (cC (pv 1)) ?g ?t ?e aAS.nd rfl rfl rfl)
   (aG (aU (aAq (yA LS hr) rfl B.sorted PyProof.Rows.boot_sorted (aA (pv 3) aB) (aCv (aDM (NB:=["other", "house", "many"]) (src:=[none,some 2,some 0]) (aCG kb hb hc) (bR (by kernel_rfl))) aDE)))),?_⟩
  case g=>exact fun cl C s₃ H₃ fp=>dH (n:=2) rfl (bF (aL (i:=0) nb3 rfl (Or.inl rfl) (Or.inr rfl)) (bF (aL (i:=1) nb3 rfl (Or.inl rfl) (Or.inr rfl)) cN))
  case t=>exact fun cl C s₃ H₃ fp=>eN (aQ cP (pv 0) (pv 2) (aV _))
  case e=>exact fun cl C s₃ H₃ fp=>pv 1
  refine ⟨_,rfl,l,rfl,⟨_,SqL.of T.at_⟩,fun D hD=>kT (fun σ=>∃ a b,σ = [a,b,some (.int (h : Int))]) (·.1) (·.2) (h : Int) hD T.at_ T.po (by lia) ⟨_,_,rfl⟩ ?_ ?_⟩
  ·rintro z σ H3 Kt Kf hj ⟨x,y,rfl⟩ ha kt kf
   refine ⟨z.1,_,rfl,SqT.of ha,rfl,_,_,rfl,_,_,rfl,rfl,?_⟩
   refine ⟨_,rfl,_,rfl,rfl,_,rfl,?_⟩
   refine ite2 (fun e=>?_) (fun e=>?_)
   ·exact ⟨_,rfl,kt _ ⟨_,_,rfl⟩ (by simpa using e)⟩
   ·exact kf _ ⟨_,_,rfl⟩ (by simpa using e)
  ·generalize hos : ((zp zs).filter fun y=>decide (y.1 = (h : Int))).map (·.2) = os
   have hol : os.length ≤ 8:=by rw [← hos,List.length_map]; exact fi.most h
   have sm : Same H (upd H D (.lst (IV os))):=aF hD
   refine ⟨_,rfl,tb.same sm,fun f' c' H2 t2' old hc' hf'=>?_⟩
   have t2 : Tab Pt H2:=t2'
   have hD2 : H2 D = some (.lst (IV os)):=old _ _ aD ((tb.same sm).not aD (by intro ps z; cases z))
   refine ⟨D,f',c',os,h,n,rfl,rfl,SqL.of hD2,(by lia),hf',hc',rfl,rfl,by lia,fun r out hr' ko=>?_⟩
   rw [← hos] at ko
   rw [aAR fi hh ko]
   have sm2 : Same H2 (upd H2 r (.lst (NV (outN n (zp zs) h)))):=aF hr'
   refine k r _ (t2.same sm2) (fun b o e hb=>sm2 _ _ (old b o (sm _ _ e) hb)) ?_ aD
   cases z : H r with
   | none=>rfl
   | some o =>
    by_cases hP : r = Pt
    ·rcases t2 with q | ⟨_,q,_⟩ <;> · rw [← hP,hr'] at q; cases q
    ·rw [old r o (sm _ _ z) hP] at hr'; cases hr'
end
end K12
namespace K12
open PySem L2 NetM
abbrev yL : Stmt:=top 23
abbrev tW : Stmt:=top 24
def rowV (n : Nat) (R : List Nat) (f : Nat→Nat) : List V:=(List.range n).map fun x=>if x∈R then V.int ((f x : Nat) : Int) else .non
theorem iE {n : Nat} {R : List Nat} {f : Nat→Nat} : (rowV n R f).length = n:=by unfold rowV; rw [List.length_map,List.length_range]
theorem iF {n : Nat} {R : List Nat} {f : Nat→Nat} {x : Nat} (h : x < n) : (rowV n R f)[x]? = some (if x∈R then V.int ((f x : Nat) : Int) else .non):=by
 unfold rowV
 rw [List.getElem?_map,List.getElem?_range h]
 rfl
theorem yM {n s : Nat} (hs : s < n) : (List.replicate n V.non).set s (V.int 0) = rowV n [s] (fun _=>0):=by
 apply List.ext_getElem?
 intro x
 by_cases hx : x < n
 ·rw [iF hx]
  by_cases e : x = s
  ·subst e
   rw [List.getElem?_set_self (by rw [List.length_replicate]; exact hx),if_pos (by simp)]
   rfl
  ·rw [List.getElem?_set_ne (fun z=>e z.symm),List.getElem?_replicate,if_pos hx,if_neg (by simp [e])]
 ·rw [List.getElem?_eq_none (by rw [List.length_set,List.length_replicate]; lia),List.getElem?_eq_none (by rw [iE]; lia)]
theorem aBM {n v k : Nat} {R : List Nat} {f : Nat→Nat} (hv : v < n) : (rowV n R f).set v (V.int ((k : Nat) : Int)) = rowV n (R ++ [v]) (put f v k):=by
 apply List.ext_getElem?
 intro x
 by_cases hx : x < n
 ·rw [iF hx]
  by_cases e : x = v
  ·subst e
   rw [List.getElem?_set_self (by rw [iE]; exact hx),if_pos (by simp),iA]
  ·rw [List.getElem?_set_ne (fun z=>e z.symm),iF hx,dS e]
   by_cases h : x∈R
   ·rw [if_pos h,if_pos (List.mem_append_left _ h)]
   ·rw [if_neg h,if_neg (fun z=>(List.mem_append.mp z).elim h fun z=>e (by simpa using z))]
 ·rw [List.getElem?_eq_none (by rw [List.length_set,iE]; lia),List.getElem?_eq_none (by rw [iE]; lia)]
def aEE (σ : St) : Nat:=match σ[4]? with
 | some (some (V.int z))=>z.toNat
 | _=>0
theorem nbO : (["others"] : List Str).Nodup:=by decide +kernel
def kU (H : Hp) (ol : Addr) (n : Nat) (ts : Ts) : Prop:=∃ bs : List Addr,H ol = some (.lst (bs.map V.ref))∧Holds H bs n (fun h=>.lst (NV (outN n ts h)))
theorem kU.same {H H' : Hp} {ol : Addr} {n : Nat} {ts : Ts} (x : kU H ol n ts) (e : Same H H') : kU H' ol n ts:=let ⟨bs,a,b⟩:=x; ⟨bs,e _ _ a,b.mono fun _ _ z=>e _ _ z⟩
theorem aCg {as : List Addr} {i : Nat} {x : V} (h : (as.map V.ref)[i]? = some x) : i < as.length∧x = .ref (as.getD i 0):=by
 rw [List.getElem?_map] at h
 cases e : as[i]? with
 | none=>rw [e] at h; cases h
 | some a =>
  rw [e] at h
  refine ⟨(List.getElem?_eq_some_iff.mp e).1,?_⟩
  rw [List.getD_eq_getElem?_getD,e]
  exact (Option.some.inj h).symm
section
variable {P : Program} {w : World} {K : PySem.W.Frag} {mg : Str→Option Value} {base : Heap}
theorem iG : aZ ["out_lists", "start", "distances", "reached", "at", "house", "other"] ["out_lists", "start"] (aM yL):=⟨rfl,rfl,rfl,by decide +kernel,rfl,by decide +kernel,by decide +kernel⟩
def oG : Sp:=fun vs H Q _=>∃ (ol : Addr) (n s : Nat) (ts : Ts),vs = [.ref ol,.int s]∧Fine n ts∧s < n∧kU H ol n ts ∧
 ∀ (r : Addr) (H' : Hp),Same H H'→H r = none→H' r = some (.lst (NV ((List.range n).map (far ts s))))→Q (.ref r) H'
theorem aC2 {f : Addr} {fd : FuncData} (F : Fun K "distances_from" "distances_from" yL f fd) (B : Bl mg) : FnOk P w K mg base CX0 1 f fd ["out_lists", "start"] oG:=by
 refine F.ok iG (fun vs H Q E h=>?_) (fun cdv A outer s H vs Q E hr h=>?_)
 ·obtain ⟨ol,n,s,ts,rfl,_⟩:=h
  rfl
 ·obtain ⟨ol,n,st,ts,rfl,fi,hs,O,k⟩:=h
  have n1:=fi.n1
  have n2:=fi.n2
  refine' ⟨_,aE (dB (i:=2) (g:=bL 0) (NB:=["others"]) (src:=[none]) (bR (by kernel_rfl)) rfl (cC (pv 0)) ?g ?t ?e iG.nd rfl rfl rfl)
   (aE (cV aI (hU (pv 2) (pv 1) eY))
   (aE (aS (i:=3) iG.nd rfl (Or.inl rfl) (bW (aA (pv 1) aB)))
   (aE (aS (i:=4) iG.nd rfl (Or.inl rfl) aI)
   (aE (aBf PassesOwn.never (aQ gG (pv 4) (aN aT (by rfl) B.len PySem.boot_len (aA (pv 3) aB)) (aV _))
    (aE (aS (i:=5) iG.nd rfl (Or.inl rfl) (aX bB (pv 3) (pv 4) (fun _ _=>rfl)))
    (aE (cA PassesOwn.never rfl (cC (aX bB (pv 0) (pv 5) (fun _ _=>rfl))) (aL (i:=6) iG.nd rfl (Or.inl rfl))
     (aG (bG (aQ nF (aX bB (pv 2) (pv 6) (fun _ _=>rfl)) cB (aV _))
      (aE (cV (aY cJ (aX bB (pv 2) (pv 5) (fun _ _=>rfl)) aI) (hU (pv 2) (pv 6) eY))
      (aG (cM (eK PySem.F.plainAttrs_list PySem.F.slot_list_append PySem.F.type_list_append dJ (pv 3) (aA (pv 6) aB))))) aW)))
    (aG (aDA (i:=4) iG.nd rfl (Or.inl rfl) aI aDB)))))
   (aG (aU (pv 2))))))),?_⟩
  case g=>exact fun cl C s₃ H₃ fp=>aL (i:=0) nbO rfl (Or.inl rfl) (Or.inr rfl)
  case t=>exact fun cl C s₃ H₃ fp=>cE
  case e=>exact fun cl C s₃ H₃ fp=>cB
  obtain ⟨bs,hol,hbl,hbs⟩:=id O
  refine ⟨_,rfl,ol,rfl,⟨_,SqL.of hol⟩,fun D hD=>?_⟩
  have nol : ol ≠ D:=aJ hol hD
  refine dC (xs:=bs.map V.ref) (fun i ys σ H2=>(∃ a,σ = [a])∧ys = List.replicate i V.non∧H2 = upd H D (.lst ys)) ⟨⟨_,rfl⟩,rfl,rfl⟩ (fun i ys σ H2 _ ⟨_,_,e⟩=>by rw [e]; exact SqL.of (by rw [aH nol]; exact hol)) ?_ ?_
  ·rintro i x ys σ H2 Kt Kf hx ⟨⟨a,rfl⟩,rfl,rfl⟩ kt kf
   have hi:=(aCg hx).1
   refine kt _ _ _ aD ?_ ⟨⟨_,rfl⟩,?_,by rw [lB]⟩
   ·rw [List.length_replicate]
    exact Nat.lt_of_lt_of_le hi (by rw [hbl]; exact Nat.le_trans n2 (by decide))
   ·rw [List.replicate_succ']
  ·rintro ys σ H2 ⟨_,rfl,rfl⟩
   rw [List.length_map,hbl]
   refine ⟨_,rfl,_,rfl,D,_,st,st,rfl,rfl,aD,by rw [List.length_replicate]; exact eO hs,?_⟩
   rw [lB,yM hs]
   refine ⟨_,rfl,by show 1 ≤ sizeLine; decide,fun R hR=>?_⟩
   have nDR : D ≠ R:=aJ (H:=upd H D (.lst (rowV n [st] (fun _=>0)))) aD hR
   have hR0 : H R = none:=by rw [aH nDR.symm] at hR; exact hR
   refine aBg (fun σ H2=>∃ (i : Nat) (Rs : List Nat) (f : Nat→Nat),i ≤ Rs.length∧Bfs n ts st i Rs f∧(∃ a b,σ = [some (.ref ol),some (.int st),some (.ref D),some (.ref R),some (.int (i : Int)),a,b])∧Same H H2∧H2 D = some (.lst (rowV n Rs f))∧H2 R = some (.lst (NV Rs)))
    (fun σ _=>n - aEE σ) ⟨0,[st],fun _=>0,Nat.zero_le _,Bfs.start hs,⟨none,none,rfl⟩,bV (aF hD) hR0,?_,aD⟩ ?_ ?_
   ·rw [aH nDR,aD]
   ·rintro σ H2 ⟨i,Rs,f,hi,Bf,⟨a,b,rfl⟩,sm,hD2,hR2⟩
    have hRn : Rs.length ≤ n:=iB Bf.nd Bf.lt
    refine ⟨_,rfl,_,rfl,R,_,rfl,.inl (SqL.of hR2),_,_,rfl,rfl,_,rfl,?_⟩
    rw [bD]
    by_cases hin : i < Rs.length
    ·rw [show decide ((i : Int) < ((Rs.length : Nat) : Int)) = true by simp; lia]
     refine iteT ?_
     have hu : Rs[i]? = some Rs[i]:=List.getElem?_eq_getElem hin
     generalize Rs[i] = u at hu
     have hun : u < n:=Bf.lt u (List.mem_of_getElem? hu)
     have huR : (NV Rs)[i]? = some (.int (u : Int)):=by rw [List.getElem?_map,hu]; rfl
     refine ⟨_,rfl,_,rfl,R,_,_,_,rfl,rfl,SqL.of hR2,aP huR,?_⟩
     have hb1 : (bs.map V.ref)[u]? = some (.ref (bs.getD u 0)):=by
      rw [List.getElem?_map,List.getD_eq_getElem?_getD,List.getElem?_eq_getElem (by rw [hbl]; exact hun)]; rfl
     have hb2:=sm _ _ (hbs _ hun)
     refine ⟨_,rfl,_,rfl,ol,_,_,_,rfl,rfl,SqL.of (sm _ _ hol),aP hb1,_,rfl,⟨_,SqL.of hb2⟩,?_⟩
     have nbD : bs.getD u 0 ≠ D:=aJ (hbs _ hun) hD
     have nbR : bs.getD u 0 ≠ R:=aJ (hbs _ hun) hR0
     refine jH (K:=K) (xs:=NV (outN n ts u)) (fun j σ H3=>∃ (Rs' : List Nat) (f' : Nat→Nat),Bfs n ts st i Rs' f'∧Rs'[i]? = some u∧(∀ v∈(outN n ts u).take j,v∈Rs'∧f' v ≤ f' u + 1) ∧
      (∃ b,σ = [some (.ref ol),some (.int st),some (.ref D),some (.ref R),some (.int (i : Int)),some (.int (u : Int)),b])∧Same H H3∧H3 D = some (.lst (rowV n Rs' f'))∧H3 R = some (.lst (NV Rs')))
      ⟨Rs,f,Bf,hu,fun v hv=>by simp at hv,⟨_,rfl⟩,sm,hD2,hR2⟩ (fun j σ H3 _ ⟨_,_,_,_,_,_,sm3,_⟩=>SqL.of (sm3 _ _ (hbs _ hun))) ?_ ?_
     ·rintro j x σ H3 hx ⟨Rs',f',Bf',hu',dn,⟨b',rfl⟩,sm3,hD3,hR3⟩
      rw [List.getElem?_map] at hx
      cases hv : (outN n ts u)[j]? with
      | none=>rw [hv] at hx; cases hx
      | some v =>
       rw [hv] at hx
       obtain rfl : V.int ((v : Nat) : Int) = x:=Option.some.inj hx
       have hvm : v∈outN n ts u:=List.mem_of_getElem? hv
       have hvn : v < n:=aCP fi hun hvm
       have tuv : T ts u v:=(hZ fi hun).mp hvm
       have tk : (outN n ts u).take (j + 1) = (outN n ts u).take j ++ [v]:=by rw [List.take_add_one,hv]; rfl
       have hun' : u∈Rs':=List.mem_of_getElem? hu'
       refine ⟨_,rfl,_,rfl,D,_,_,_,rfl,rfl,SqL.of hD3,aP (iF hvn),rfl,_,rfl,?_⟩
       by_cases hvR : v∈Rs'
       ·rw [if_pos hvR]
        refine iteF ⟨Rs',f',Bf',hu',fun x hx=>?_,⟨_,rfl⟩,sm3,hD3,hR3⟩
        rw [tk] at hx
        rcases List.mem_append.mp hx with z | z
        ·exact dn x z
        ·simp at z; subst z; exact ⟨hvR,Bf'.bd u hu' _ hvR⟩
       ·rw [if_neg hvR]
        refine iteT ?_
        have hg2 : (rowV n Rs' f')[u]? = some (.int ((f' u : Nat) : Int)):=by rw [iF hun,if_pos hun']
        refine ⟨_,rfl,_,rfl,D,_,_,_,rfl,rfl,SqL.of hD3,aP hg2,_,_,rfl,rfl,_,rfl,_,rfl,D,_,_,_,rfl,rfl,hD3,by rw [iE]; exact eO hvn,?_⟩
        have e1 : (rowV n Rs' f').set v (.int (((f' u : Nat) : Int) + 1)) = rowV n (Rs' ++ [v]) (put f' v (f' u + 1)):=by
         rw [show ((f' u : Nat) : Int) + 1 = ((f' u + 1 : Nat) : Int) by lia,aBM hvn]
        rw [e1]
        have hR4 : (upd H3 D (.lst (rowV n (Rs' ++ [v]) (put f' v (f' u + 1))))) R = some (.lst (NV Rs')):=by rw [aH nDR.symm]; exact hR3
        have hlen' : Rs'.length ≤ n:=iB Bf'.nd Bf'.lt
        refine ⟨_,rfl,.inl ⟨rfl,_,SqL.of hR4⟩,_,rfl,R,_,_,rfl,rfl,hR4,by rw [bD]; exact Nat.lt_of_lt_of_le (show Rs'.length < 33 by lia) (by decide),?_⟩
        have hi' : i < Rs'.length:=(List.getElem?_eq_some_iff.mp hu').1
        have nuv : u ≠ v:=fun z=>hvR (z ▸ hun')
        refine ⟨Rs' ++ [v],put f' v (f' u + 1),Bf'.add hu' hvn tuv hvR,by rw [List.getElem?_append_left hi']; exact hu',fun x hx=>?_,⟨_,rfl⟩,bV (bV sm3 hD) hR0,?_,?_⟩
        ·rw [dS nuv]
         rw [tk] at hx
         rcases List.mem_append.mp hx with z | z
         ·obtain ⟨q1,q2⟩:=dn x z
          exact ⟨List.mem_append_left _ q1,by rw [dS (fun (z : x = v)=>hvR (z ▸ q1))]; exact q2⟩
         ·simp at z; subst z
          exact ⟨by simp,by rw [iA]; exact Nat.le_refl _⟩
        ·rw [aH nDR,aD]
        ·rw [aD]; show _ = some (HO.lst (NV (Rs' ++ [v]))); rw [show NV (Rs' ++ [v]) = NV Rs' ++ [.int (v : Int)] by unfold NV; rw [List.map_append]; rfl]
     ·rintro σ H3 ⟨Rs',f',Bf',hu',dn,⟨b',rfl⟩,sm3,hD3,hR3⟩
      rw [bD,List.take_length] at dn
      have hi' : i < Rs'.length:=(List.getElem?_eq_some_iff.mp hu').1
      have hlen' : Rs'.length ≤ n:=iB Bf'.nd Bf'.lt
      refine ⟨_,rfl,_,_,rfl,rfl,⟨⟨i + 1,Rs',f',hi',Bf'.next hu' (fun v t=>dn v ((hZ fi hun).mpr t)),⟨_,_,rfl⟩,sm3,hD3,hR3⟩,?_⟩⟩
      show n - ((i : Int) + 1).toNat < n - (i : Int).toNat
      lia
    ·rw [show decide ((i : Int) < ((Rs.length : Nat) : Int)) = false by rw [decide_eq_false_iff_not]; lia]
     have e : rowV n Rs f = NV ((List.range n).map (far ts st)):=by
      unfold rowV NV
      rw [List.map_map]
      refine List.map_congr_left fun x hx=>?_
      obtain ⟨q1,q2⟩:=Bf.done fi (by lia) (List.mem_range.mp hx)
      rw [if_pos q1,q2]; rfl
     rw [e] at hD2
     refine iteF ⟨_,rfl,k D H2 sm hD hD2⟩
   ·rintro σ H2 Q1 Q2 imp ⟨v,e1,v2,e2,p,ys,e3,e4,i1,i2,e5,e6,kk,e7,q⟩
    exact ⟨v,e1,v2,e2,p,ys,e3,e4,i1,i2,e5,e6,kk,e7,imp _ _ q⟩
end
end K12
namespace K12
open PySem L2 NetM
theorem aEF : (["row"] : List Str).Nodup:=by decide +kernel
section
variable {P : Program} {w : World} {K : PySem.W.Frag} {mg : Str→Option Value} {base : Heap}
theorem aC3 : aZ ["distances"] ["distances"] (aM tW):=⟨rfl,rfl,rfl,by decide +kernel,rfl,by decide +kernel,by decide +kernel⟩
def pL : Sp:=fun vs H Q _=>∃ (l : Addr) (ds : List Addr) (n : Nat) (o : Nat→List V),vs = [.ref l]∧H l = some (.lst (ds.map V.ref))∧n ≤ 32∧Holds H ds n (fun j=>.lst (o j))∧(∀ j,j < n→∀ x∈o j,∃ i,x = .int i)∧∀ H',Same H H'→Q .non H'
theorem aBN {f : Addr} {fd : FuncData} (F : Fun K "check_reached" "check_reached" tW f fd) (B : Bl mg) : FnOk P w K mg base CX0 1 f fd ["distances"] pL:=by
 refine F.ok aC3 (fun vs H Q E h=>?_) (fun cdv A outer s H vs Q E hr h=>?_)
 ·obtain ⟨l,ds,n,o,rfl,_⟩:=h
  rfl
 ·obtain ⟨l,ds,n,o,rfl,hl,n2,hh,hx,k⟩:=h
  refine' ⟨_,aG (bG (cU (aN (aAn rfl) (by rfl) B.any PyProof.Rows.boot_any (aA ?c aB))) dI aW),?_⟩
  case c =>
   refine' bZ (g:=bL 0) (te:=tOp (rIn K false) (tC .non) (tVar 0)) (NB:=["row"]) (src:=[none]) (bR (by kernel_rfl)) rfl (cC (pv 0)) ?g ?t ?e
   case g=>exact fun cl C s₃ H₃ fp=>aL (i:=0) aEF rfl (Or.inl rfl) (Or.inr rfl)
   case t=>exact fun cl C s₃ H₃ fp=>cE
   case e=>exact fun cl C s₃ H₃ fp=>gR kB cB (pv 0) rfl
  refine ⟨_,rfl,l,rfl,⟨_,SqL.of hl⟩,fun D hD=>?_⟩
  have nl : l ≠ D:=aJ hl hD
  refine dC (xs:=ds.map V.ref) (fun i ys σ H2=>(∃ a,σ = [a])∧ys = (List.replicate i false).map V.bl∧H2 = upd H D (.lst ys)) ⟨⟨_,rfl⟩,rfl,rfl⟩ (fun i ys σ H2 _ ⟨_,_,e⟩=>by rw [e]; exact SqL.of (by rw [aH nl]; exact hl)) ?_ ?_
  ·rintro i x ys σ H2 Kt Kf hxi ⟨⟨a,rfl⟩,rfl,rfl⟩ kt kf
   obtain ⟨hi,rfl⟩:=aCg hxi
   rw [hh.1] at hi
   have hd:=hh.2 i hi
   have nd : ds.getD i 0 ≠ D:=aJ hd hD
   have q1 : (o i).all cS = true:=List.all_eq_true.mpr fun x hx'=>by obtain ⟨z,rfl⟩:=hx i hi x hx'; rfl
   have q2 : inV .non (o i) = false:=by
    unfold inV
    rw [List.any_eq_false]
    intro x hx'
    obtain ⟨z,rfl⟩:=hx i hi x hx'
    exact fun z=>by cases z
   refine ⟨_,rfl,_,_,rfl,.inl (SqL.of (by rw [aH nd]; exact hd)),rfl,q1,?_⟩
   refine kt _ _ _ aD ?_ ⟨⟨_,rfl⟩,?_,by rw [lB]⟩
   ·rw [List.length_map,List.length_replicate]
    exact Nat.lt_of_lt_of_le hi (Nat.le_trans n2 (by decide))
   ·rw [List.replicate_succ',List.map_append,q2]; rfl
  ·rintro ys σ H2 ⟨_,rfl,rfl⟩
   refine ⟨D,_,rfl,SqL.of aD,_,rfl,?_⟩
   have e : (List.replicate (ds.map V.ref).length false).any id = false:=by
    rw [List.any_eq_false]; intro x hx'; rw [(List.mem_replicate.mp hx').2]; decide
   rw [e]
   exact iteF (k _ (aF hD))
end
end K12
namespace K12
open PySem L2 NetM
theorem nb2 : (["one", "other"] : List Str).Nodup:=by decide +kernel
theorem aEG : (["house", "many", "ties"] : List Str).Nodup:=by decide +kernel
theorem nbHS : (["house", "self"] : List Str).Nodup:=by decide +kernel
def gL (p Pt : Addr) (H H' : Hp) : Prop:=∀ b o,H b = some o→b ≠ p→b ≠ Pt→H' b = some o
theorem dU.mono {p Pt : Addr} {H H' : Hp} {l : Addr} {n : Nat} {zs : Zs} {C dx : Addr} {fs : List (Str × V)} (h : dU H l n zs) (e : gL p Pt H H') (hp : H p = some (.ins C dx fs)) (tb : Tab Pt H) : dU H' l n zs :=
 ⟨h.fine,e _ _ h.at_ (cZ h.at_ hp (by intro z; cases z)) (tb.not h.at_ (by intro ps z; cases z)),fun z hz=>e _ _ (h.po z hz) (cZ (h.po z hz) hp (by intro z; cases z)) (tb.not (h.po z hz) (by intro ps z; cases z))⟩
theorem Tab.mono {p Pt C dx : Addr} {fs : List (Str × V)} {H H' : Hp} (t : Tab Pt H) (e : ∀ b o,H b = some o→b ≠ p→H' b = some o) (hp : H p = some (.ins C dx fs)) : Tab Pt H':=by
 rcases t with z | ⟨c,z,y⟩
 ·exact .inl (e _ _ z (cZ z hp (by intro q; cases q)))
 ·exact .inr ⟨c,e _ _ z (cZ z hp (by intro q; cases q)),e _ _ y (cZ y hp (by intro q; cases q))⟩
theorem Tab.full {Pt : Addr} {H : Hp} (t : Tab Pt H) : H Pt ≠ none:=by
 rcases t with z | ⟨c,z,y⟩ <;> rw [z] <;> intro q <;> cases q
theorem gL.free {p Pt r : Addr} {H H' : Hp} (s : gL p Pt H H') (hp : H' p ≠ none) (tb : Tab Pt H') (h : H' r = none) : H r = none:=by
 cases z : H r with
 | none=>rfl
 | some o =>
  by_cases e1 : r = p
  ·subst e1; exact absurd h hp
  ·by_cases e2 : r = Pt
   ·subst e2; exact absurd h tb.full
   ·rw [s r o z e1 e2] at h; cases h
theorem aEH {σ : St} {H : Hp} {k : List V→Hp→Prop} (h : k [] H) : tNil σ H k:=h
theorem gZ {H : Hp} {p : Addr} {o : HO} (h : H p = some o) : H p ≠ none:=by rw [h]; intro z; cases z
section
variable {P : Program} {w : World} {K : PySem.W.Frag} {mg : Str→Option Value} {base : Heap}
theorem aDX : aZ ["self", "many", "ties"] ["self", "many", "ties"] (aM rO):=⟨rfl,rfl,rfl,by decide +kernel,rfl,by decide +kernel,by decide +kernel⟩
def tX (C Pt : Addr) : Sp:=fun vs H Q E=>∃ (p dx : Addr) (n : Nat) (l : Addr) (zs : Zs),vs = [.ref p,.int n,.ref l]∧H p = some (.ins C dx [])∧dU H l n zs∧Tab Pt H ∧
  ∀ H',fL C H' (fun a=>H a = none) p n (zp zs)→Tab Pt H'→gL p Pt H H'→Q .non H'
theorem aC4 {f C Pt : Addr} {fd : FuncData} (F : Fun K "__init__" "Net.__init__" rO f fd) (T : NT K mg C) (B : Bl mg) (CT : Cal P w K mg base CX0 6 "check_ties" ["many", "ties"] gY) (CB : Cal P w K mg base CX0 1 "check_balance" ["many", "ties"] gY)
  (HO' : Cal P w K mg base CX0 1 "houses_out" ["many", "ties", "house"] (oF Pt)) (DF : Cal P w K mg base CX0 1 "distances_from" ["out_lists", "start"] oG) (CR : Cal P w K mg base CX0 1 "check_reached" ["distances"] pL) :
  FnOk P w K mg base CX0 7 f fd ["self", "many", "ties"] (tX C Pt):=by
 refine F.ok aDX (fun vs H Q E h=>?_) (fun cdv A outer s H vs Q E hr h=>?_)
 ·obtain ⟨p,dx,n,l,zs,rfl,_⟩:=h
  rfl
 ·have hr1 : Room 1 _:=hr.mono (by decide)
  refine' ⟨_,aE (cM (aO CT hr aR (aA (pv 1) (aA (pv 2) aB))))
   (aE (cM (aO CB hr1 aR (aA (pv 1) (aA (pv 2) aB))))
   (aE (nJ (pv 0) (pv 1) rfl)
   (aE (nJ (pv 0) (aN yC (by rfl) B.sorted PyProof.Rows.boot_sorted (aA ?c1 aB)) rfl)
   (aE (nJ (pv 0) ?c2 rfl)
   (aE (nJ (pv 0) ?c3 rfl)
   (aG (cM (aO CR hr1 aR (aA (nI (pv 0) rfl) aB))))))))),?_⟩
  case c1 =>
   refine' bZ (g:=gTup K 2 (gB (bL 0) (gB (bL 1) gNil))) (te:=tTup (bE (tVar 0) (bE (tVar 1) tNil))) (NB:=["one", "other"]) (src:=[none,none]) (bR (by kernel_rfl)) rfl (cC (pv 2)) ?g ?t ?e
   case g=>exact fun cl C s₃ H₃ fp=>dH (n:=2) rfl (bF (aL (i:=0) nb2 rfl (Or.inl rfl) (Or.inr rfl)) (bF (aL (i:=1) nb2 rfl (Or.inl rfl) (Or.inr rfl)) cN))
   case t=>exact fun cl C s₃ H₃ fp=>cE
   case e=>exact fun cl C s₃ H₃ fp=>bA (aA (pv 0) (aA (pv 1) aB))
  case c2 =>
   refine' bZ (g:=bL 0) (te:=lE (oF Pt) [] E0 (bE (tVar 1) (bE (tVar 2) (bE (tVar 0) tNil)))) (NB:=["house", "many", "ties"]) (src:=[none,some 1,some 2]) (bR (by kernel_rfl)) rfl (bH rfl B.range (aA (pv 1) aB)) ?g ?t ?e
   case g=>exact fun cl C s₃ H₃ fp=>aL (i:=0) aEG rfl (Or.inl rfl) (Or.inr rfl)
   case t=>exact fun cl C s₃ H₃ fp=>cE
   case e=>exact fun cl C s₃ H₃ fp=>aO HO' hr1 aR (aA (pv 1) (aA (pv 2) (aA (pv 0) aB)))
  case c3 =>
   refine' bZ (g:=bL 0) (te:=lE oG [] E0 (bE (tFld K (tVar 1) "out_lists") (bE (tVar 0) tNil))) (NB:=["house", "self"]) (src:=[none,some 0]) (bR (by kernel_rfl)) rfl (bH rfl B.range (aA (pv 1) aB)) ?g ?t ?e
   case g=>exact fun cl C s₃ H₃ fp=>aL (i:=0) nbHS rfl (Or.inl rfl) (Or.inr rfl)
   case t=>exact fun cl C s₃ H₃ fp=>cE
   case e=>exact fun cl C s₃ H₃ fp=>aO DF hr1 aR (aA (nI (pv 1) rfl) (aA (pv 0) aB))
  obtain ⟨p,dx,n,l,zs,rfl,hp,TT,tb,k⟩:=h
  have fi:=TT.fine
  have n1:=fi.n1
  have n2:=fi.n2
  have hlen : zs.length ≤ 256:=by have:=fi.len; rw [bJ] at this; exact this
  refine ⟨_,rfl,_,rfl,n,l,zs,rfl,TT,fun H1 s1=>?_⟩
  refine ⟨_,rfl,_,rfl,n,l,zs,rfl,TT.same s1,fun H2 s2=>?_⟩
  have s12 : Same H H2:=s1.trans s2
  refine ⟨_,rfl,_,rfl,p,C,dx,[],rfl,s12 _ _ hp,T.cl,T.nH,(by show 0 < 1000; decide),?_⟩
  let G1 : Hp:=upd H2 p (.ins C dx (putF "house_count" (.int n) []))
  have d1 : gL p Pt H G1:=fun b o e h1 _=>by show upd _ _ _ _ = _; rw [aH h1]; exact s12 _ _ e
  have g1p : G1 p = some (.ins C dx (putF "house_count" (.int n) [])):=aD
  have TT1 : dU G1 l n zs:=TT.mono d1 hp tb
  have tb1 : Tab Pt G1:=tb.mono (fun b o e h1=>by show upd _ _ _ _ = _; rw [aH h1]; exact s12 _ _ e) hp
  refine ⟨_,rfl,l,rfl,⟨_,SqL.of TT1.at_⟩,fun D hD=>?_⟩
  refine aBJ (fun y=>y) (fun σ=>∃ a b,σ = [a,b]) TT1.at_ TT1.po hD (by lia) ⟨_,_,rfl⟩ ?_ ?_
  ·rintro z σ H3 R Kf hz ⟨a,b,rfl⟩ ha kk
   refine ⟨_,_,rfl,SqT.of ha,rfl,_,_,rfl,_,_,rfl,rfl,?_⟩
   exact ⟨_,rfl,_,rfl,by show 2 ≤ sizeLine; decide,fun t ht=>kk _ _ ⟨_,_,rfl⟩ ht⟩
  ·intro zs2 H3 sm hD3 po3 ez fr2
   rw [List.map_id'] at ez
   have hl2 : zs2.length = zs.length:=by rw [← bJ,ez,bJ]
   refine aEH ?_
   refine aCT hD3 po3 (by lia) (fun u hu=>by have:=(fi.rg u (ez ▸ hu)).2; lia) fun tl zs3 htl pm ord=>?_
   have htlN : H tl = none:=d1.free (gZ g1p) tb1 (sm.free htl)
   have fr3 : ∀ z∈zs3,H z.1 = none:=fun z hz=>d1.free (gZ g1p) tb1 (fr2 z (pm.mem_iff.mp hz))
   have e3p : H3 p = some (.ins C dx (putF "house_count" (.int n) [])):=sm _ _ g1p
   have nptl : p ≠ tl:=aJ e3p htl
   refine ⟨_,rfl,p,C,dx,_,rfl,by rw [aH nptl]; exact e3p,T.cl,T.nT,by show 1 < 1000; decide,?_⟩
   let G2 : Hp:=upd (upd H3 tl (.lst (zr zs3))) p (.ins C dx (putF "tie_list" (.ref tl) (putF "house_count" (.int n) [])))
   have q2 : ∀ b o,H3 b = some o→b ≠ p→G2 b = some o:=fun b o e h1=>by
    show upd _ _ _ _ = _
    rw [aH h1,aH (aJ e htl)]; exact e
   have d2 : gL p Pt H G2:=fun b o e h1 h2=>q2 _ _ (sm _ _ (d1 _ _ e h1 h2)) h1
   have g2t : G2 tl = some (.lst (zr zs3)):=by show upd _ _ _ _ = _; rw [aH nptl.symm,aD]
   have g2o : PO G2 zs3:=fun z hz=>q2 _ _ (po3 z (pm.mem_iff.mp hz)) (cZ (po3 z (pm.mem_iff.mp hz)) e3p (by intro z; cases z))
   have g2p : G2 p = some (.ins C dx (putF "tie_list" (.ref tl) (putF "house_count" (.int n) []))):=aD
   have TT2 : dU G2 l n zs:=TT.mono d2 hp tb
   have tb2 : Tab Pt G2:=tb1.mono (fun b o e h1=>q2 _ _ (sm _ _ e) h1) g1p
   refine ⟨_,rfl,n,rfl,by lia,by lia,fun D2 hD2=>?_⟩
   refine dO (n:=n) (lo:=0) (fun i ys σ H4=>(∃ a,σ = [a,some (.int n),some (.ref l)])∧∃ bs : List Addr,ys = bs.map V.ref∧(∀ b∈bs,H b = none)∧Holds H4 bs i (fun h=>.lst (NV (outN n (zp zs) h)))∧oE Pt G2 H4∧Tab Pt H4∧H4 D2 = some (.lst ys)∧∀ b∈bs,b ≠ D2)
    ⟨⟨_,rfl⟩,[],rfl,(fun _ h=>nomatch h),Holds.nil,oE.of (aF hD2),tb2.same (aF hD2),aD,(fun _ h=>nomatch h)⟩ ?_ ?_
   ·rintro i ys σ H4 Kt Kf hi ⟨⟨a,rfl⟩,bs,rfl,hbN,hb,sm4,tb4,hD4,hbD⟩ kt kf
    have TT4 : dU H4 l n zs:=TT2.mono (p:=p) (fun b o e _ h2=>sm4 _ _ e h2) g2p tb2
    have e4p:=sm4 _ _ g2p (tb2.not g2p (by intro ps z; cases z))
    refine ⟨_,rfl,_,rfl,_,rfl,n,l,i,zs,by rw [Int.zero_add]; rfl,hi,TT4,tb4,fun r H5 t5 st5 hr4 hr5=>?_⟩
    have hrN : H r = none:=gL.free (fun b o e h1 h2=>sm4 _ _ (d2 _ _ e h1 h2) h2) (gZ e4p) tb4 hr4
    have e5D : H5 D2 = some (.lst (bs.map V.ref)):=st5 _ _ hD4 (tb4.not hD4 (by intro ps z; cases z))
    have nrD : r ≠ D2:=by rintro rfl; rw [hD4] at hr4; cases hr4
    have keepD : ∀ b o ys',H5 b = some o→b ≠ D2→(upd H5 D2 ys') b = some o:=fun b o ys' e h=>by rw [aH h]; exact e
    refine kt _ _ _ e5D (by rw [List.length_map,hb.1]; exact Nat.lt_of_lt_of_le hi (Nat.le_trans n2 (by decide))) ⟨⟨_,rfl⟩,bs ++ [r],by rw [List.map_append]; rfl,?_,?_,?_,?_,aD,?_⟩
    ·intro b hb'
     rcases List.mem_append.mp hb' with z | z
     ·exact hbN b z
     ·rw [List.mem_singleton.mp z]; exact hrN
    ·refine Holds.snoc (hb.mono fun j hj e=>?_) (keepD _ _ _ hr5 nrD)
     refine keepD _ _ _ (st5 _ _ e (tb4.not e (by intro ps z; cases z))) (hbD _ ?_)
     rw [List.getD_eq_getElem?_getD,List.getElem?_eq_getElem (by rw [hb.1]; exact hj)]; exact List.getElem_mem _
    ·intro b o e h
     exact keepD _ _ _ (st5 _ _ (sm4 _ _ e h) h) (aJ e hD2)
    ·rcases t5 with z | ⟨c,z,y⟩
     ·exact .inl (keepD _ _ _ z (cZ z e5D (by intro q; cases q)))
     ·exact .inr ⟨c,keepD _ _ _ z (cZ z e5D (by intro q; cases q)),keepD _ _ _ y (cZ y e5D (by intro q; cases q))⟩
    ·intro b hb'
     rcases List.mem_append.mp hb' with z | z
     ·exact hbD b z
     ·rw [List.mem_singleton.mp z]; exact nrD
   ·rintro ys σ H4 ⟨_,bs,rfl,hbN,hb,sm4,tb4,hD4,hbD⟩
    have e4p : H4 p = some (.ins C dx (putF "tie_list" (.ref tl) (putF "house_count" (.int n) []))):=sm4 _ _ g2p (tb2.not g2p (by intro ps z; cases z))
    have hD2N : H D2 = none:=d2.free (gZ g2p) tb2 hD2
    refine ⟨_,rfl,p,C,dx,_,rfl,e4p,T.cl,T.nO,by have h1:=dF "tie_list" (V.ref tl) (putF "house_count" (V.int n) []); have h2:=dF "house_count" (V.int n) []; simp at h2; lia,?_⟩
    let G3 : Hp:=upd H4 p (.ins C dx (putF "out_lists" (.ref D2) (putF "tie_list" (.ref tl) (putF "house_count" (.int n) []))))
    have q3 : ∀ b o,H4 b = some o→b ≠ p→G3 b = some o:=fun b o e h1=>by show upd _ _ _ _ = _; rw [aH h1]; exact e
    have g3p : G3 p = some (.ins C dx (putF "out_lists" (.ref D2) (putF "tie_list" (.ref tl) (putF "house_count" (.int n) [])))):=aD
    have d3 : gL p Pt H G3:=fun b o e h1 h2=>q3 _ _ (sm4 _ _ (d2 _ _ e h1 h2) h2) h1
    have tb3 : Tab Pt G3:=tb4.mono q3 e4p
    have hb3 : Holds G3 bs n (fun h=>.lst (NV (outN n (zp zs) h))):=hb.mono fun j hj e=>q3 _ _ e (cZ e e4p (by intro z; cases z))
    have g3D : G3 D2 = some (.lst (bs.map V.ref)):=q3 _ _ hD4 (cZ hD4 e4p (by intro z; cases z))
    have O3 : kU G3 D2 n (zp zs):=⟨bs,g3D,hb3⟩
    refine ⟨_,rfl,n,rfl,by lia,by lia,fun D3 hD3'=>?_⟩
    refine dO (n:=n) (lo:=0) (fun i ys σ H6=>(∃ a,σ = [a,some (.ref p)])∧∃ ds : List Addr,ys = ds.map V.ref∧(∀ b∈ds,H b = none)∧Holds H6 ds i (fun s=>.lst (NV ((List.range n).map (far (zp zs) s))))∧Same G3 H6∧H6 D3 = some (.lst ys)∧∀ b∈ds,b ≠ D3)
     ⟨⟨_,rfl⟩,[],rfl,(fun _ h=>nomatch h),Holds.nil,aF hD3',aD,(fun _ h=>nomatch h)⟩ ?_ ?_
    ·rintro i ys σ H6 Kt Kf hi ⟨⟨a,rfl⟩,ds,rfl,hdN,hd,sm6,hD6,hdD⟩ kt kf
     refine ⟨_,rfl,p,C,dx,_,_,rfl,sm6 _ _ g3p,T.cl,T.nO,by rw [bS,if_pos rfl],_,rfl,D2,n,i,zp zs,by rw [Int.zero_add]; rfl,fi,hi,O3.same sm6,fun r H7 st7 hr6 hr7=>?_⟩
     have e7D : H7 D3 = some (.lst (ds.map V.ref)):=st7 _ _ hD6
     have nrD : r ≠ D3:=by rintro rfl; rw [hD6] at hr6; cases hr6
     have hrN : H r = none:=gL.free (fun b o e h1 h2=>sm6 _ _ (d3 _ _ e h1 h2)) (gZ (sm6 _ _ g3p)) (tb3.same sm6) hr6
     have keepD : ∀ b o ys',H7 b = some o→b ≠ D3→(upd H7 D3 ys') b = some o:=fun b o ys' e h=>by rw [aH h]; exact e
     refine kt _ _ _ e7D (by rw [List.length_map,hd.1]; exact Nat.lt_of_lt_of_le hi (Nat.le_trans n2 (by decide))) ⟨⟨_,rfl⟩,ds ++ [r],by rw [List.map_append]; rfl,?_,?_,?_,aD,?_⟩
     ·intro b hb'
      rcases List.mem_append.mp hb' with z | z
      ·exact hdN b z
      ·rw [List.mem_singleton.mp z]; exact hrN
     ·refine Holds.snoc (hd.mono fun j hj e=>?_) (keepD _ _ _ hr7 nrD)
      refine keepD _ _ _ (st7 _ _ e) (hdD _ ?_)
      rw [List.getD_eq_getElem?_getD,List.getElem?_eq_getElem (by rw [hd.1]; exact hj)]; exact List.getElem_mem _
     ·intro b o e
      exact keepD _ _ _ (st7 _ _ (sm6 _ _ e)) (aJ e hD3')
     ·intro b hb'
      rcases List.mem_append.mp hb' with z | z
      ·exact hdD b z
      ·rw [List.mem_singleton.mp z]; exact nrD
    ·rintro ys σ H6 ⟨_,ds,rfl,hdN,hd,sm6,hD6,hdD⟩
     have e6p:=sm6 _ _ g3p
     refine ⟨_,rfl,p,C,dx,_,rfl,e6p,T.cl,T.nD,by have h1:=dF "tie_list" (V.ref tl) (putF "house_count" (V.int n) []); have h2:=dF "house_count" (V.int n) []; have h3:=dF "out_lists" (V.ref D2) (putF "tie_list" (V.ref tl) (putF "house_count" (V.int n) [])); simp at h2; lia,?_⟩
     have q4 : ∀ b o u,H6 b = some o→b ≠ p→(upd H6 p u) b = some o:=fun b o u e h1=>by rw [aH h1]; exact e
     refine ⟨_,rfl,p,C,dx,_,_,rfl,aD,T.cl,T.nD,by rw [bS,if_pos rfl],D3,ds,n,fun s=>NV ((List.range n).map (far (zp zs) s)),rfl,q4 _ _ _ hD6 (cZ hD6 e6p (by intro z; cases z)),n2,hd.mono fun j hj e=>q4 _ _ _ e (cZ e e6p (by intro z; cases z)),fun j hj x hx=>?_,fun H8 s8=>?_⟩
     ·obtain ⟨y,hy,rfl⟩:=List.mem_map.mp hx
      exact ⟨_,rfl⟩
     ·have up : ∀ b o,G3 b = some o→b ≠ p→H8 b = some o:=fun b o e h1=>s8 _ _ (q4 _ _ _ (sm6 _ _ e) h1)
      have hD3N : H D3 = none:=d3.free (gZ g3p) tb3 hD3'
      have upT : ∀ b o,G2 b = some o→b ≠ p→b ≠ Pt→H8 b = some o:=fun b o e h1 h2=>up _ _ (q3 _ _ (sm4 _ _ e h2) h1) h1
      refine k H8 ⟨fi,dx,tl,D2,D3,s8 _ _ aD,hD2N,hD3N,⟨bs,up _ _ g3D (cZ g3D g3p (by intro z; cases z)),hbN,hb3.mono fun j hj e=>up _ _ e (cZ e g3p (by intro z; cases z))⟩,
       ⟨ds,s8 _ _ (q4 _ _ _ hD6 (cZ hD6 e6p (by intro z; cases z))),hdN,hd.mono fun j hj e=>s8 _ _ (q4 _ _ _ e (cZ e e6p (by intro z; cases z)))⟩,
       ⟨htlN,zs3,upT _ _ g2t nptl.symm (tb2.not g2t (by intro ps z; cases z)),fun z hz=>upT _ _ (g2o z hz) (cZ (g2o z hz) g2p (by intro z; cases z)) (tb2.not (g2o z hz) (by intro ps z; cases z)),fr3,((show (zp zs3).Perm (zp zs2) from pm.map _).trans (List.Perm.of_eq ez)),ord⟩⟩ ?_ fun b o e h1 h2=>up _ _ (d3 _ _ e h1 h2) h1
      exact tb3.mono up g3p
end
end K12
namespace K12
open PySem L2 NetM
theorem pM {xs : List Nat} {x : Nat} : NV xs ++ [.int (x : Int)] = NV (xs ++ [x]):=by unfold NV; rw [List.map_append]; rfl
theorem yN {xs : List Nat} {i : Nat} {x : V} (h : (NV xs)[i]? = some x) : ∃ y,xs[i]? = some y∧x = .int (y : Int):=by
 unfold NV at h
 rw [List.getElem?_map] at h
 cases e : xs[i]? with
 | none=>rw [e] at h; cases h
 | some z=>rw [e] at h; exact ⟨z,rfl,(Option.some.inj h).symm⟩
end K12
namespace L2
open PySem PySem.Spec PyProof.Rows
section
variable {X : Cx}
def EqD (X : Cx) (H : Hp) (d : Nat) (x y : V) : Prop:=∀ (pins : List (Addr × Obj)) (s : Shared) (σ : St) (A : Around) (u v : Value),Inv X pins σ H s→A.units + d < cLine→RelV x u→RelV y v→SeqAt.EqAt A s u v true
theorem aC5 {H : Hp} {i : Int} : EqD X H 0 (.int i) (.int i):=by
 intro pins s σ A u v I hu rx ry
 have h:=nM (A:=A) (s:=s) rx ry rfl rfl
 rw [show eqV (.int i) (.int i) = true by show decide (i = i) = true; simp] at h
 exact h
theorem aAT {pins : List (Addr × Obj)} {s : Shared} {σ : St} {H : Hp} {A : Around} {d : Nat} {xs ys : List V} {us vs : List Value} (I : Inv X pins σ H s) (hu : A.units + d < cLine) (rx : Vals xs us) (ry : Vals ys vs)
  (he : ∀ i,i < xs.length→i < ys.length→EqD X H d (xs.getD i .non) (ys.getD i .non)) : ∀ j (h1 : j < us.toArray.size) (h2 : j < vs.toArray.size),SeqAt.EqAt A s us.toArray[j] vs.toArray[j] true:=by
 intro j h1 h2
 have j1 : j < xs.length:=by rw [rx.length]; simpa using h1
 have j2 : j < ys.length:=by rw [ry.length]; simpa using h2
 have e1 : xs[j]? = some (xs.getD j .non):=by rw [List.getD_eq_getElem?_getD,List.getElem?_eq_getElem j1]; rfl
 have e2 : ys[j]? = some (ys.getD j .non):=by rw [List.getD_eq_getElem?_getD,List.getElem?_eq_getElem j2]; rfl
 obtain ⟨u,hu1,ru⟩:=rx.get e1
 obtain ⟨v,hv1,rv⟩:=ry.get e2
 have eu : us.toArray[j] = u:=by
  have : us[j]? = some us.toArray[j]:=by simp at h1 ⊢
  rw [hu1] at this; exact (Option.some.inj this).symm
 have ev : vs.toArray[j] = v:=by
  have : vs[j]? = some vs.toArray[j]:=by simp at h2 ⊢
  rw [hv1] at this; exact (Option.some.inj this).symm
 rw [eu,ev]
 exact he j j1 j2 pins s σ A u v I hu ru rv
theorem tY {n : Nat} : (List.range n).all (fun _=>true) = true:=List.all_eq_true.mpr fun _ _=>rfl
def rTEq (X : Cx) (neg : Bool) (d : Nat) : R2:=fun x y H Q=>∃ p q xs ys,x = .ref p∧y = .ref q∧SqT X.K H p xs∧SqT X.K H q ys∧xs.length = ys.length∧(∀ i,i < xs.length→i < ys.length→EqD X H d (xs.getD i .non) (ys.getD i .non))∧Q (.bl (!neg)) H
theorem aC6 {d : Nat} (hu : X.A.units + (d + 1) < cLine) : OpR X (compareOp .NotEq) (rTEq X true d):=by
 intro pins s σ H x y v u Q I rx ry h
 obtain ⟨p,q,xs,ys,rfl,rfl,hp,hq,hl,he,k⟩:=h
 obtain rfl : v = Value.ref p:=rx
 obtain rfl : u = Value.ref q:=ry
 obtain ⟨us,r1,p1,_⟩:=I.tuple hp
 obtain ⟨vs,r2,p2,_⟩:=I.tuple hq
 have e : (us.toArray.size == vs.toArray.size) = true:=by simp only [List.size_toArray]; rw [← r1.length,← r2.length,hl]; simp
 refine SeqAt.RcNeAt.tuples (e:=fun _=>true) (show s.heap.IsTuple p us.toArray from p1) (show s.heap.IsTuple q vs.toArray from p2) (by lia) (aAT I (by show X.A.units + 1 + d < cLine; lia) r1 r2 he) _ _ _ _ ⟨.bl _,H,I,rfl,?_⟩
 rw [tY,e]
 exact k
end
end L2
namespace K12
open PySem L2 NetM
section
variable {P : Program} {w : World} {K : PySem.W.Frag} {mg : Str→Option Value} {base : Heap}
end
end K12
namespace L2
open PySem PySem.Spec PyProof.Rows
def jN (P : Program) (w : World) (h : Heap) (vs : List Value) (ps : List (List Key × Addr × Value)) : Prop:=vs.length = ps.length∧∀ (i : Nat) (v : Value),vs[i]? = some v→∃ (a : Addr) (o : Obj) (n : Nat) (b : Addr) (k : List Key) (x : Value),v = Value.ref a∧h.get? a = some o∧o.cls = .type "tuple" ∧ o.data = .seq #[.ref b,x] n∧(tupleKind (bU P w)).is h k b∧ps[i]? = some (k,b,x)
theorem tZ {P : Program} {w : World} {h h' : Heap} {k : List Key} {b : Addr} (x : (tupleKind (bU P w)).is h k b) (q : ∀ b o,(∃ xs n,o.data = .seq xs n)→h.get? b = some o→h'.get? b = some o) : (tupleKind (bU P w)).is h' k b:=by
 obtain ⟨o,its,n,h1,h2,h3,h4⟩:=x
 exact ⟨o,its,n,q _ _ ⟨_,_,h3⟩ h1,h2,h3,h4⟩
theorem jN.keeps {P : Program} {w : World} {h h' : Heap} {vs : List Value} {ps : List (List Key × Addr × Value)} (x : jN P w h vs ps) (k : ∀ b o,(∃ xs n,o.data = .seq xs n)→h.get? b = some o→h'.get? b = some o) : jN P w h' vs ps :=
 ⟨x.1,fun i v hv=>let ⟨a,o,n,b,kk,y,e1,e2,e3,e4,e5,e6⟩:=x.2 i v hv; ⟨a,o,n,b,kk,y,e1,k a o ⟨_,_,e4⟩ e2,e3,e4,tZ e5 k,e6⟩⟩
theorem mU {P : Program} {w : World} {h h' : Heap} {d : Addr} {xs : List (List Key × Addr × Value)} (x : h.DictOfH (tupleKind (bU P w)) d xs) (kd : ∀ o,h.get? d = some o→h'.get? d = some o) (q : ∀ b o,(∃ xs n,o.data = .seq xs n)→h.get? b = some o→h'.get? b = some o) : h'.DictOfH (tupleKind (bU P w)) d xs:=by
 obtain ⟨o,es,ep,h1,h2,h3,h4,h5,h6⟩:=x
 exact ⟨o,es,ep,kd _ h1,h2,h3,h4,fun y hy=>tZ (h5 y hy) q,h6⟩
section
variable {prog : Program} {w : World} {A : Around} {E : Value→Shared→Prop} {s : Shared} {R : Result→Shared→Prop} {l d Ia : Addr}
theorem yO {vs : List Value} {ps : List (List Key × Addr × Value)} (hh : A.handled = none) (hu : A.units + 4 < cLine) (hlD : l ≠ d) (hlI : l ≠ Ia) (hdI : d ≠ Ia) :
  ∀ (k i : Nat) (j : Int) (t : Tok) (s : Shared) (kvs : List (List Key × Addr × Value)),vs.length - i = k→i ≤ vs.length→s.heap.IsListIter Ia l i→s.heap.IsList l vs.toArray→jN prog w s.heap vs ps→s.heap.DictOfH (tupleKind (bU prog w)) d kvs→kvs.length + k ≤ 4096 →
   (∀ h' tk,(∀ b o,b ≠ d→b ≠ Ia→s.heap.get? b = some o→h'.get? b = some o)→h'.DictOfH (tupleKind (bU prog w)) d ((ps.drop i).foldl (fun m p=>storedH m p.1 p.2.1 p.2.2) kvs)→R (.ok (.ret .none)) { s with heap:=h',toks:=tk }) →
   codeAny (model prog w) A (.builtin "dict.update.loop" ⟨[.ref d,.ref Ia,.int j t,.none],[]⟩) R s:=by
 intro k
 induction k with
 | zero =>
  intro i j t s kvs hk hi hit hl hp hD hz hR
  refine codeAny_builtin mF ?_
  rw [Around.under_plainId fX _]
  show wpAny _ A.in1 (pyNext (.ref Ia) >>= _) _ _ s
  refine wpAny_bind (wpAny_pyNext_list_end (show A.in1.handled = none from hh) hit hl (by simp; lia) fun h' eb=>?_)
  have hd : ps.drop i = []:=by rw [List.drop_eq_nil_iff]; have:=hp.1; lia
  have hR':=hR h' s.toks (fun b o hb hbI e=>eb b o hbI e)
  rw [hd] at hR'
  refine wpAny_bind (wpAny_pure (wpAny_pure (hR' ?_)))
  refine mU hD (fun o e=>eb d o hdI e) fun b o hb e=>eb b o (fun z=>?_) e
  obtain ⟨oi,e1,_,d1⟩:=hit
  obtain ⟨xs,m,hb⟩:=hb
  rw [z,e1] at e; cases e
  rw [d1] at hb; cases hb
 | succ k ih =>
  intro i j t s kvs hk hi hit hl hp hD hz hR
  have hlt : i < vs.length:=by lia
  refine codeAny_builtin mF ?_
  rw [Around.under_plainId fX _]
  show wpAny _ A.in1 (pyNext (.ref Ia) >>= _) _ _ s
  have hv : vs[i]? = some vs[i]:=List.getElem?_eq_getElem hlt
  refine wpAny_bind (wpAny_pyNext_list_item hit hl (x:=vs[i]) (by simpa using hv) fun h1 hit1 sb1=>?_)
  have neI : ∀ b ob,(∃ xs n,ob.data = .seq xs n)→s.heap.get? b = some ob→b ≠ Ia:=fun b ob ⟨xs,m,z⟩ e z'=>by
   obtain ⟨oi,e1,_,d1⟩:=hit
   rw [z',e1] at e; cases e
   rw [d1] at z; cases z
  have k1 : ∀ b ob,(∃ xs n,ob.data = .seq xs n)→s.heap.get? b = some ob→h1.get? b = some ob:=fun b ob hb e=>(sb1.2 b (neI b ob hb e)).trans e
  have hp1 : jN prog w h1 vs ps:=hp.keeps k1
  have hD1 : h1.DictOfH (tupleKind (bU prog w)) d kvs:=mU hD (fun o e=>(sb1.2 d hdI).trans e) k1
  have hl1 : h1.IsList l vs.toArray:=by
   obtain ⟨ol,q1,q2⟩:=hl
   exact ⟨ol,(sb1.2 l hlI).trans q1,q2⟩
  obtain ⟨a,o,n,b,kk,x,ea,eo1,ec,ed,ek,ep⟩:=hp1.2 i _ hv
  rw [ea]
  have neD : ∀ b ob,(∃ xs n,ob.data = .seq xs n)→h1.get? b = some ob→b ≠ d:=fun b ob ⟨xs,m,z⟩ e z'=>by
   obtain ⟨oS,es,ep',q1,_,q4,_⟩:=hD1
   rw [z',q1] at e; cases e
   rw [q4] at z; cases z
  have hT : Shared.TypeIs { s with heap:=h1 } (.ref a) "tuple" := ⟨o,eo1,ec⟩
  refine wpAny_bind (wpAny_holding ?_)
  show wpAny _ A.in1 (Sem.tryCatch (Builtin.Dict.pairItems (.ref a)) _ >>= _) _ _ _
  refine wpAny_bind (wpAny_tryCatch ?_)
  unfold Builtin.Dict.pairItems
  refine wpAny_bind (wpAny_typeOf hT ?_)
  rw [if_pos (by decide)]
  refine wpAny_bind (wpAny_seqItems eo1 ed (wpAny_pure ?_))
  show wpAny _ A.in1 (holding [.ref b,x] (dictSet d (.ref b) x)) _ _ _
  refine wpAny_holding (wpAny_dictSet_heap (s:={ s with heap:=h1 }) (show A.in1.units < cLine from by show A.units + 1 < cLine; lia) ek hD1 (fun h2 hD2 sb2=>?_) (Nat.le_trans (by lia : kvs.length ≤ 4096) (by decide)))
  refine wpAny_pure ⟨plainId_quiet fX _,?_⟩
  have hi2 : i < ps.length:=by have:=hp.1; lia
  have hdr : ps.drop i = (kk,b,x) :: ps.drop (i + 1):=by
   rw [List.drop_eq_getElem_cons hi2]
   have : ps[i]? = some ps[i]:=List.getElem?_eq_getElem hi2
   rw [this] at ep
   rw [Option.some.inj ep]
  have hlen : (storedH kvs kk b x).length ≤ kvs.length + 1:=by
   unfold storedH
   split
   ·rw [List.length_map]; lia
   ·rw [List.length_append]; simp
  have k2 : ∀ b ob,(∃ xs n,ob.data = .seq xs n)→h1.get? b = some ob→h2.get? b = some ob:=fun b ob hb e=>(sb2.2 b (neD b ob hb e)).trans e
  refine ih (i + 1) _ _ { s with heap:=h2,toks:=_ } (storedH kvs kk b x) (by lia) hlt ?_ ?_ (hp1.keeps k2) hD2 (by lia) fun h3 tk3 k3 D3=>?_
  ·obtain ⟨oi,q1,q2⟩:=hit1
   exact ⟨oi,(sb2.2 Ia (Ne.symm hdI)).trans q1,q2⟩
  ·obtain ⟨ol,q1,q2⟩:=hl1
   exact ⟨ol,(sb2.2 l hlD).trans q1,q2⟩
  ·refine hR h3 tk3 (fun b ob hb hbI e=>k3 b ob hb hbI ((sb2.2 b hb).trans ((sb1.2 b hbI).trans e))) ?_
   rw [hdr]
   exact D3
end
end L2
namespace L2
open PySem PySem.Spec PyProof.Rows
section
variable {prog : Program} {w : World} {A : Around} {E : Value→Shared→Prop} {s : Shared} {l : Addr}
theorem aDY {P : Program} {w : World} (h : Heap) : (h.push { cls:=.type "dict",data:=.dict #[] }).DictOfH (tupleKind (bU P w)) h.objs.size [] :=
 ⟨_,#[],0,Heap.get?_push_size _ rfl,⟨rfl,rfl,rfl⟩,rfl,rfl,(fun x hx=>nomatch hx),List.nodup_nil⟩
theorem yP {vs : List Value} {n : Nat} {ps : List (List Key × Addr × Value)} {Q : Value→Shared→Prop} (hh : A.handled = none) (hu : A.units + 8 < cLine) (hl : s.heap.get? l = some { cls:=.type "list",data:=.seq vs.toArray n }) (hp : jN prog w s.heap vs ps) (hz : vs.length ≤ 4096)
  (h : ∀ h' tk,h'.DictOfH (tupleKind (bU prog w)) s.heap.objs.size (ps.foldl (fun m p=>storedH m p.1 p.2.1 p.2.2) [])→(∀ b o,s.heap.get? b = some o→h'.get? b = some o)→Q (.ref s.heap.objs.size) { s with heap:=h',toks:=tk }) :
  wpAny (model prog w) A (call (.type "dict") [.ref l]) Q E s:=by
 refine callType_codes (Q₁:=fun obj s₁=>obj = .ref s.heap.objs.size∧s₁ = { s with heap:=s.heap.push { cls:=.type "dict",data:=.dict #[] } }) F.kt_called_dict (F.kt_typeCall_dict_1 _) F.entry_dict_init (kt_code_dict_new _ ⟨rfl,rfl⟩) ?_
 rintro obj s₁ ⟨rfl,rfl⟩
 have hnew0 : (s.heap.push { cls:=.type "dict",data:=.dict #[] }).DictOf (bU prog w) s.heap.objs.size []:=Heap.DictOf.new s.heap
 have hnew : (s.heap.push { cls:=.type "dict",data:=.dict #[] }).DictOfH (tupleKind (bU prog w)) s.heap.objs.size []:=aDY s.heap
 have hsz : (s.heap.push { cls:=.type "dict",data:=.dict #[] }).objs.size = s.heap.objs.size + 1:=Heap.size_push ..
 have up : ∀ b o,s.heap.get? b = some o→(s.heap.push { cls:=.type "dict",data:=.dict #[] }).get? b = some o:=fun b o e=>Heap.get?_push_of_some _ e
 have hlt : l < s.heap.objs.size:=Heap.lt_size hl
 refine ⟨hnew0.typeIs,F.args_dict_init_2 _ _,?_⟩
 generalize (s.heap.push { cls:=.type "dict",data:=.dict #[] }) = hD at *
 have hT : Shared.TypeIs { s with heap:=hD } (.ref l) "list" := ⟨_,up _ _ hl,rfl⟩
 unfold Builtin.«dict.__init__»
 refine wpAny_bind ?_
 unfold Builtin.Dict.selfAndRest
 refine wpAny_bind (wpAny_notOrdered_dict hnew0.typeIs (wpAny_pure ?_))
 show wpAny _ _ (Builtin.Dict.updateFrom "dict.__init__" s.heap.objs.size (.ref l) [] .none) _ _ _
 unfold Builtin.Dict.updateFrom
 refine wpAny_bind (wpAny_typeOf hT ?_)
 rw [if_pos (by decide)]
 refine wpAny_bind (aDP (s:={ s with heap:=hD }) (show A.in1.handled = none from hh) (up _ _ hl) fun h1 tk1 k1=>?_)
 have hl1 : h1.get? l = some { cls:=.type "list",data:=.seq vs.toArray n }:=k1 _ _ (up _ _ hl)
 have hL1 : h1.IsList l vs.toArray:=⟨_,hl1,rfl,n,rfl⟩
 rw [if_pos (by rfl)]
 refine wpAny_bind (wpAny_rule ?_)
 refine wpAny_bind (wpAny_pyIter_list (s:={ s with heap:=h1,toks:=tk1 }) hL1 ?_)
 have hDI : s.heap.objs.size < h1.objs.size:=by
  obtain ⟨o,es,ep,q1,q2⟩:=hnew
  exact Heap.lt_size (k1 _ _ q1)
 refine wpAny_pure ⟨plainId_quiet fX _,?_⟩
 refine yO (l:=l) (vs:=vs) (ps:=ps) (Ia:=h1.objs.size) (show A.in1.handled = none from hh) (show A.units + 1 + 4 < cLine by lia) (Nat.ne_of_lt hlt) (Nat.ne_of_lt (Nat.lt_trans hlt hDI)) (Nat.ne_of_lt hDI) vs.length 0 0 0 _ [] (by simp) (Nat.zero_le _) ⟨_,Heap.get?_push_size _ rfl,rfl,rfl⟩ ?_ ?_ ?_ (by simpa using hz) fun h2 tk2 k2 D2=>?_
 ·exact ⟨_,Heap.get?_push_of_some _ hl1,rfl,n,rfl⟩
 ·exact hp.keeps fun b o _ e=>Heap.get?_push_of_some _ (k1 _ _ (up _ _ e))
 ·exact mU hnew (fun o e=>Heap.get?_push_of_some _ (k1 _ _ e)) fun b o _ e=>Heap.get?_push_of_some _ (k1 _ _ e)
 ·refine ⟨rfl,h h2 tk2 D2 fun b o e=>k2 b o (Nat.ne_of_lt (Heap.lt_size e)) (Nat.ne_of_lt (Nat.lt_trans (Heap.lt_size e) hDI)) (Heap.get?_push_of_some _ (k1 _ _ (up _ _ e)))⟩
end
abbrev TK:=List Key × Addr × V
def cG (m : List (List Key × V)) (ps : List TK) : List (List Key × V):=ps.foldl (fun m p=>putK m p.1 p.2.2) m
inductive KP (H : Hp) : List TK→List (List Key × Addr × Value)→Prop where
 | nil : KP H [] []
 | cons {k : List Key} {b : Addr} {v : V} {u : Value} {ps : List TK} {us : List (List Key × Addr × Value)} (hb : H b = some (.tup (k.map kV))) (r : RelV v u) (t : KP H ps us) : KP H ((k,b,v) :: ps) ((k,b,u) :: us)
theorem KP.fold {H : Hp} : ∀ {ps : List TK} {us : List (List Key × Addr × Value)} {m : List (List Key × V)} {m' : List (List Key × Addr × Value)},KP H ps us→KT H m m'→KT H (cG m ps) (us.foldl (fun m p=>storedH m p.1 p.2.1 p.2.2) m')
 | [],_,_,_,.nil,r=>r
 | (k,b,v) :: ps,_,m,m',.cons (us:=us) hb rv t,r=>by
  have:=KP.fold (ps:=ps) (us:=us) t (r.put k hb rv)
  exact this
theorem mJ : ∀ (ps : List TK) (m : List (List Key × V)),(cG m ps).length ≤ m.length + ps.length
 | [],m=>by show m.length ≤ _; simp
 | p :: ps,m=>by
  have h1:=mJ ps (putK m p.1 p.2.2)
  have h2:=uY m p.1 p.2.2
  show (cG (putK m p.1 p.2.2) ps).length ≤ _
  rw [List.length_cons]; lia
theorem uA {P : Program} {w : World} {H : Hp} {h : Heap} (ok : HOk P w H h) : ∀ (ts : List Addr) (ps : List TK),ts.length = ps.length→(∀ i,i < ps.length→∃ k b v,ps[i]? = some (k,b,v)∧H (ts.getD i 0) = some (.tup [.ref b,v])∧H b = some (.tup (k.map kV))) →
  ∃ us : List (List Key × Addr × Value),KP H ps us∧jN P w h (ts.map Value.ref) us
 | [],[],_,_=>⟨[],.nil,rfl,fun i v hv=>by simp at hv⟩
 | [],_ :: _,e,_=>by simp at e
 | _ :: _,[],e,_=>by simp at e
 | t :: ts,(k,b,v) :: ps,e,hs=>by
  obtain ⟨us,r,T⟩:=uA ok ts ps (by simpa using e) fun i hi=>by
   obtain ⟨k',b',v',h1,h2,h3⟩:=hs (i + 1) (by simp; lia)
   exact ⟨k',b',v',by simpa using h1,by simpa using h2,h3⟩
  obtain ⟨k0,b0,v0,g1,g2,g3⟩:=hs 0 (by simp)
  have g1' : (k,b,v) = (k0,b0,v0):=by simpa using g1
  cases g1'
  have g2' : H t = some (.tup [.ref b,v]):=by simpa using g2
  obtain ⟨_,its,rv,o,q1,q2,n,q3⟩:=ok t _ g2'
  cases rv with
  | cons ra rr =>
   cases rr with
   | cons rb rr2 =>
    cases rr2
    rename_i ka vb
    obtain rfl : ka = Value.ref b:=ra
    refine ⟨(k,b,vb) :: us,.cons g3 rb r,by simp [T.1],fun i x hx=>?_⟩
    cases i with
    | zero =>
     have hx' : Value.ref t = x:=by simpa using hx
     exact ⟨t,o,n,b,k,vb,hx'.symm,q1,q2,q3.1,iW ok g3,rfl⟩
    | succ i=>exact T.2 i x (by simpa using hx)
section
variable {X : Cx}
def aDZ : List V→Hp→VK→Prop:=fun xs H Q=>∃ (l : Addr) (ts : List Addr) (ps : List TK),xs = [.ref l]∧H l = some (.lst (ts.map V.ref))∧ts.length = ps.length∧(∀ i,i < ps.length→∃ k b v,ps[i]? = some (k,b,v)∧H (ts.getD i 0) = some (.tup [.ref b,v])∧H b = some (.tup (k.map kV)))∧ps.length ≤ 4096 ∧
 ∀ D,H D = none→Q (.ref D) (upd H D (.dT (cG [] ps)))
theorem yQ (hc : X.calm = true) (hu : X.A.units + 8 < cLine) : cI X (.type "dict") aDZ:=by
 intro pins s σ H xs us Q I r h
 obtain ⟨l,ts,ps,rfl,hl,hlen,ht,hz,q⟩:=h
 obtain ⟨u1,rfl,r1⟩:=r.one
 obtain rfl : u1 = Value.ref l:=r1
 obtain ⟨z,its,n,rv,_,e⟩:=I.lstM hl
 have hits : its = ts.map Value.ref:=pE rv
 subst hits
 obtain ⟨vs,kv,T⟩:=uA I.hok ts ps hlen ht
 refine yP (I.ok.hd hc) hu e T (by rw [List.length_map,hlen]; exact hz) fun h' tk D k=>?_
 have hs : sysModules < s.heap.objs.size:=Nat.lt_trans (by decide : sysModules < mainGlobals) (I.mod.glob.keeps I.bk).lt
 have nf:=I.hok.fresh (Nat.le_refl s.heap.objs.size)
 have I2 : Inv X pins σ (upd H s.heap.objs.size (.dT (cG [] ps))) { s with heap:=h',toks:=tk }:=by
  obtain ⟨o,es,ep,h1,h2,h3,h4,_,h6⟩:=D
  refine I.laidN (t':=tk) k (Heap.get?_none_of_le (Nat.le_refl _)) ⟨?_,?_,_,KT.keeps (KP.fold kv .nil) fun b ys eb=>?_,o,es,ep,h1,h2,h3,h4,h6⟩
  ·have:=mJ ps []
   exact Nat.le_trans this (Nat.le_trans (by simpa using hz) (by decide : 4096 ≤ sizeLine))
  ·rw [beq_eq_false_iff_ne]
   exact Nat.ne_of_gt hs
  ·rw [aH (aJ eb nf)]; exact eb
 exact ⟨.ref s.heap.objs.size,_,I2,rfl,q _ nf⟩
end
end L2
namespace L2
open PySem PySem.Spec PyProof.Rows
section
variable {X : Cx}
def aCh : R2:=fun x y H Q=>∃ a b xs ys,x = .ref a∧y = .ref b∧H a = some (.tup xs)∧H b = some (.tup ys)∧xs.length + ys.length ≤ sizeLine∧∀ r H',Same H H'→H' r = some (.tup (xs ++ ys))→Q (.ref r) H'
theorem lS : OpR X (binaryOp .Add) aCh:=by
 intro pins s σ H x y v u Q I rx ry h
 obtain ⟨a,b,xs,ys,rfl,rfl,ha,hb,hz,q⟩:=h
 cases rx
 cases ry
 obtain ⟨its,r1,p1,_⟩:=I.tuple (SqT.of ha)
 obtain ⟨its2,r2,p2,_⟩:=I.tuple (SqT.of hb)
 obtain ⟨⟨cls,dd,data,sl⟩,ho,hc,n,hd⟩:=id p1
 obtain ⟨⟨cls2,dd2,data2,sl2⟩,ho2,hc2,n2,hd2⟩:=id p2
 simp only at hc hd hc2 hd2
 subst hc hd hc2 hd2
 have e : its.toArray ++ its2.toArray = (its ++ its2).toArray:=by simp
 by_cases hv : xs = []
 ·subst hv
  have hi : its = []:=r1.nil_iff.mpr rfl
  exact concat_meets ⟨_,ho,rfl⟩ ⟨_,ho2,rfl⟩ noFill_tuple_add seq_tuple_add PySem.F.slot_tuple_add PySem.F.entry_tuple_add (PySem.F.args_tuple_add_2 _ _)
   (tuple_addW0 a b its.toArray its2.toArray n n2 dd dd2 sl sl2 (by simp [hi])) ⟨ho,ho2,⟨.ref b,H,I,rfl,q b H (Same.refl _) hb⟩⟩
 ·have hi : its ≠ []:=fun z=>hv (r1.nil_iff.mp z)
  by_cases hw : ys = []
  ·subst hw
   have hj : its2 = []:=r2.nil_iff.mpr rfl
   exact concat_meets ⟨_,ho,rfl⟩ ⟨_,ho2,rfl⟩ noFill_tuple_add seq_tuple_add PySem.F.slot_tuple_add PySem.F.entry_tuple_add (PySem.F.args_tuple_add_2 _ _)
    (tuple_addW1 a b its.toArray its2.toArray n n2 dd dd2 sl sl2 (by simpa using hi) (by simp [hj])) ⟨ho,ho2,⟨.ref a,H,I,rfl,q a H (Same.refl _) (by rw [List.append_nil]; exact ha)⟩⟩
  ·have hj : its2 ≠ []:=fun z=>hw (r2.nil_iff.mp z)
   refine concat_meets ⟨_,ho,rfl⟩ ⟨_,ho2,rfl⟩ noFill_tuple_add seq_tuple_add PySem.F.slot_tuple_add PySem.F.entry_tuple_add (PySem.F.args_tuple_add_2 _ _)
    (tuple_addW2 a b its.toArray its2.toArray n n2 dd dd2 sl sl2 (by simpa using hi) (by simpa using hj) (by rw [List.size_toArray,List.size_toArray,← r1.length,← r2.length]; exact hz)) ⟨ho,ho2,?_⟩
   rw [e]
   have nf:=I.hok.fresh (Nat.le_refl s.heap.objs.size)
   refine ⟨.ref s.heap.objs.size,_,I.laid (t':=s.toks) (o:=.tup (xs ++ ys)) (fun b ob q=>Heap.get?_push_of_some _ q) (Nat.le_refl _) ?_,rfl,q _ _ (aF nf) aD⟩
   exact ⟨by rw [List.length_append]; exact hz,_,r1.append r2,fY.new _ _⟩
theorem lY {prog : Program} {w : World} {A : Around} {E : Value→Shared→Prop} {s : Shared} {t sl : Addr} {items : Array Value} {vl vu : Value} {lo hi : Option Int} {Q : Value→Shared→Prop} (ht : IsTup s.heap t items) (hs : s.heap.IsSliceOf sl vl vu .none) (pl : IsPart vl lo) (pu : IsPart vu hi)
  (hw : HT.sIx items.size 0 lo = 0∧HT.sIx items.size items.size hi = items.size) (h : Q (.ref t) s) : wpAny (model prog w) A (getItem (.ref t) (.ref sl)) Q E s:=by
 obtain ⟨os,hos,hcs,hds⟩:=id hs
 have hTs : s.TypeIs (.ref sl) "slice" := ⟨os,hos,hcs⟩
 unfold getItem
 try with_reducible refine wpAny_holding ?_
 first | refine wpAny_bind (wpAny_pure ?_) | skip
 refine wpAny_bind (wpAny_sequenceKey ht.typeIs (by decide) ?_)
 refine wpAny_bind (wpAny_callSpecial?_slot (name:=Str.ofString "__getitem__") ht.typeIs PyProof.Rows.slot_tuple_getitem
  (wpAny_call_entry PyProof.Rows.slot_tuple_getitem ht.typeIs entry_tuple_getitem ?_ (args_tuple_getitem _ _)))
 show wpAny _ _ (Builtin.Tuple.tupleItemsOf (.ref t) >>= _) _ _ s
 refine wpAny_bind (tupleItemsOf_ ht ?_)
 refine wpAny_bind (wpAny_typeOf hTs ?_)
 rw [if_pos (by decide)]
 refine wpAny_bind (HT.sliceApplied_gen hs pl pu ?_)
 have hyes : (((HT.sIx items.size 0 lo : Nat) : Int) == 0 && (1 : Int) == 1 && (HT.sIx items.size items.size hi - HT.sIx items.size 0 lo) == items.size) = true:=by
  rw [hw.1,hw.2]; simp
 show wpAny _ _ (if (((HT.sIx items.size 0 lo : Nat) : Int) == 0 && (1 : Int) == 1 && (HT.sIx items.size items.size hi - HT.sIx items.size 0 lo) == items.size) = true then _ else _) _ _ s
 rw [if_pos hyes]
 refine wpAny_bind (Q:=_) (m:=Builtin.Tuple.tupleIsExact (.ref t)) ?_
 unfold Builtin.Tuple.tupleIsExact
 refine wpAny_bind (wpAny_typeOf ht.typeIs ?_)
 refine wpAny_pure ?_
 rw [if_pos (by decide)]
 exact wpAny_bind (wpAny_rule (wpAny_pure ⟨_,rfl,wpAny_pure h⟩))
def rSlH : V→Option Int→Option Int→Hp→VK→Prop:=fun x lo hi H Q=>∃ a xs,x = .ref a∧H a = some (.tup xs)∧∀ r H',Same H H'→H' r = some (.tup (cutV xs lo hi))→Q (.ref r) H'
theorem aBO {xs : List V} {lo hi : Option Int} (hw : HT.sIx xs.length 0 lo = 0∧HT.sIx xs.length xs.length hi = xs.length) : cutV xs lo hi = xs:=by
 unfold cutV
 rw [hw.1,hw.2,Nat.sub_zero,List.drop_zero,List.take_length]
theorem lT : SlR X rSlH:=by
 intro pins s σ H x v vl vu lo hi sl Q I rx hs pl pu h
 obtain ⟨a,xs,rfl,hx,q⟩:=h
 by_cases hw : HT.sIx xs.length 0 lo = 0∧HT.sIx xs.length xs.length hi = xs.length
 ·cases rx
  obtain ⟨its,r,ht,hz⟩:=I.tuple (SqT.of hx)
  have hlen : its.toArray.size = xs.length:=by rw [List.size_toArray]; exact r.length.symm
  refine ⟨"tuple",_,PyProof.Rows.slot_tuple_getitem.lookup,ht.typeIs,?_⟩
  exact lY ht hs pl pu (by rw [hlen]; exact hw) ⟨.ref a,H,I,rfl,q a H (Same.refl _) (by rw [aBO hw]; exact hx)⟩
 ·exact aDG pins s σ H _ v vl vu lo hi sl Q I rx hs pl pu ⟨a,xs,rfl,SqT.of hx,hw,fun p hp=>q p _ (aF hp) aD⟩
def aEI (X : Cx) (H : Hp) (p : Addr) (d : PyData) : Prop:=(∀ pins σ s,Inv X pins σ H s→∃ as,Reads s.heap (.ref p) d as∧(d.hasDict = true→sysModules ∉ as))∧d.showable = true∧d.depth ≤ 4∧d.shown.length ≤ sizeLine
def rQ (X : Cx) (H : Hp) (x : V) (d : PyData) : Prop:=(∃ p,x = .ref p∧aEI X H p d)∨(x = .non∧d = .none)∨(∃ b,x = .bl b∧d = .bool b)∨(∃ i,x = .int i∧d = .int i∧i.natAbs.log2 < 1920)∨(∃ y,x = .str y∧d = .str y∧(reprText y).length ≤ sizeLine)
theorem oH (hg : X.A.guards = some []) (hu : X.A.units + 8 < cLine) : cI X (.builtin "repr") (fun xs H Q=>∃ (x : V) (d : PyData),xs = [x]∧rQ X H x d∧Q (.str d.shown) H):=by
 intro pins s σ H xs us Q I r h
 obtain ⟨x,d,rfl,hx,q⟩:=h
 obtain ⟨u,rfl,ru⟩:=r.one
 rcases hx with ⟨p,rfl,hr,h1,h3,h4⟩ | ⟨rfl,rfl⟩ | ⟨b,rfl,rfl⟩ | ⟨i,rfl,rfl,hi⟩ | ⟨y,rfl,rfl,hy⟩
 ·obtain rfl : u = Value.ref p:=ru
  obtain ⟨as,rd,hs⟩:=hr pins σ s I
  exact repr_of_reads' rd h1 hs hg (by lia) (fun b o e=>e) (fun h' u tk hk=>⟨.str d.shown,H,I.kept (t':=tk) hk,⟨u,rfl⟩,q⟩) h4
 ·obtain rfl : u = Value.none:=ru
  exact PySem.P.repr_of_none ⟨.str _,H,I.tok _,⟨_,rfl⟩,q⟩
 ·obtain rfl : u = Value.bool b:=ru
  refine PySem.P.repr_of_bool ⟨.str _,H,I.tok _,⟨_,rfl⟩,?_⟩
  cases b <;> exact q
 ·obtain ⟨t,rfl⟩ : ∃ t,u = Value.int i t:=ru
  exact PySem.P.repr_of_int hi ⟨.str _,H,I.tok _,⟨_,rfl⟩,q⟩
 ·obtain ⟨t,rfl⟩ : ∃ t,u = Value.str y t:=ru
  exact PySem.P.repr_of_str ⟨.str _,H,I.tok _,⟨_,rfl⟩,q⟩ hy
end
end L2
namespace NetM
abbrev deg (ts : Ts) (h : Int) : Nat:=(ts.filter fun t=>decide (t.1 = h)).length
theorem pN {ts us : Ts} {h : Int} : deg (ts ++ us) h = deg ts h + deg us h:=by unfold deg; rw [List.filter_append,List.length_append]
theorem lU {a b h : Int} : deg [(a,b),(b,a)] h = (if a = h then 1 else 0) + (if b = h then 1 else 0):=by
 unfold deg
 by_cases c1 : a = h <;> by_cases c2 : b = h <;> simp [c1,c2]
theorem aC7 {ps : Ts} {a b h : Int} : deg (dbl (ps ++ [(a,b)])) h = deg (dbl ps) h + ((if a = h then 1 else 0) + (if b = h then 1 else 0)):=by
 rw [gK,pN]
 exact congrArg _ lU
theorem aC8 {a b : Int} : dbl [(a,b)] = [(a,b),(b,a)]:=rfl
theorem aC9 {n : Nat} {a b : Nat} (ha : a < n) (hb : b < n) (hab : a ≠ b) : Pre n [(ci a,ci b),(ci b,ci a)]:=by
 have ne : ci a ≠ ci b:=fun e=>hab (Int.ofNat.inj e)
 refine ⟨?_,?_,?_,?_,?_⟩
 ·rw [List.nodup_cons]
  refine ⟨fun h=>?_,by simp⟩
  have:=List.mem_singleton.mp h
  exact ne (congrArg Prod.fst this)
 ·intro t ht
  rcases List.mem_cons.mp ht with rfl | ht
  ·exact ⟨⟨by lia,by lia⟩,⟨by lia,by lia⟩⟩
  ·rw [List.mem_singleton.mp ht]; exact ⟨⟨by lia,by lia⟩,⟨by lia,by lia⟩⟩
 ·intro t ht
  rcases List.mem_cons.mp ht with rfl | ht
  ·exact ne
  ·rw [List.mem_singleton.mp ht]; exact fun e=>ne e.symm
 ·intro h
  by_cases c1 : ci a = h <;> by_cases c2 : ci b = h <;> simp [c1,c2]
 ·intro h
  have:=lU (a:=ci a) (b:=ci b) (h:=h)
  show deg [(ci a,ci b),(ci b,ci a)] h ≤ 8
  rw [this]
  split <;> split <;> lia
theorem Fine.pair {n : Nat} {ps : Ts} {a b : Nat} (F : Fine n (dbl ps)) (ha : a < n) (hb : b < n) (hab : a ≠ b) (h1 : (ci a,ci b) ∉ ps) (h2 : (ci b,ci a) ∉ ps) (d1 : deg (dbl ps) (ci a) ≤ 7) (d2 : deg (dbl ps) (ci b) ≤ 7) : Fine n (dbl (ps ++ [(ci a,ci b)])):=by
 rw [gK,aC8]
 have ne : ci a ≠ ci b:=fun e=>hab (Int.ofNat.inj e)
 refine F.app (lN F.pre (aC9 ha hb hab) (fun t ht=>?_) fun h=>?_)
 ·rcases List.mem_cons.mp ht with rfl | ht
  ·exact fun z=>(jA.mp z).elim h1 h2
  ·rw [List.mem_singleton.mp ht]
   exact fun z=>(jA.mp z).elim h2 h1
 ·show deg (dbl ps) h + deg [(ci a,ci b),(ci b,ci a)] h ≤ 8
  rw [lU]
  have m:=F.most h
  by_cases c1 : ci a = h
  ·subst c1
   rw [if_pos rfl,if_neg (fun e=>ne e.symm)]; lia
  ·by_cases c2 : ci b = h
   ·subst c2
    rw [if_neg c1,if_pos rfl]; lia
   ·rw [if_neg c1,if_neg c2]; exact m
theorem qZ : ∀ {ps : Ts} {h : Int},(∀ u∈ps,u.1 ≠ u.2)→(ps.filter fun u=>decide (u.1 = h) || decide (u.2 = h)).length = deg (dbl ps) h
 | [],_,_=>rfl
 | u :: ps,h,hn=>by
  have ih:=qZ (ps:=ps) (h:=h) fun v hv=>hn v (List.mem_cons_of_mem _ hv)
  have hu:=hn u List.mem_cons_self
  have e : dbl (u :: ps) = [u,swp u] ++ dbl ps:=rfl
  rw [e,pN,List.filter_cons,← ih]
  obtain ⟨a,b⟩:=u
  have d : deg [(a,b),swp (a,b)] h = (if a = h then 1 else 0) + (if b = h then 1 else 0):=lU
  rw [d]
  have hab : a ≠ b:=hu
  by_cases c1 : a = h
  ·have c2 : ¬ b = h:=fun z=>hab (c1.trans z.symm)
   simp [c1,c2]; lia
  ·by_cases c2 : b = h
   ·simp [c1,c2]; lia
   ·simp [c1,c2]
theorem aDa {n : Nat} {ts : Ts} (P : Pre n ts) : Pre n (ts.map swp):=by
 have fl : ∀ h : Int,((ts.map swp).filter fun t=>decide (t.1 = h)).length = (ts.filter fun t=>decide (t.2 = h)).length:=fun h=>by
  rw [List.filter_map,List.length_map]; rfl
 have fl2 : ∀ h : Int,((ts.map swp).filter fun t=>decide (t.2 = h)).length = (ts.filter fun t=>decide (t.1 = h)).length:=fun h=>by
  rw [List.filter_map,List.length_map]; rfl
 refine ⟨?_,fun t ht=>?_,fun t ht=>?_,fun h=>?_,fun h=>?_⟩
 ·refine List.pairwise_map.mpr (P.nd.imp fun {x y} hxy e=>hxy ?_)
  have e1:=congrArg Prod.fst e
  have e2:=congrArg Prod.snd e
  exact Prod.ext e2 e1
 ·obtain ⟨u,hu,rfl⟩:=List.mem_map.mp ht
  exact ⟨(P.rg u hu).2,(P.rg u hu).1⟩
 ·obtain ⟨u,hu,rfl⟩:=List.mem_map.mp ht
  exact fun e=>P.ne u hu e.symm
 ·rw [fl,fl2,P.bal]
 ·rw [fl,← P.bal]; exact P.most h
theorem aD0 {m k : Nat} (h : 3 ≤ m) (hk : k < m) : pk m (pk m k) ≠ k:=by
 unfold pk
 split <;> split <;> lia
theorem vH {n : Nat} {xs : List Nat} (n1 : 3 ≤ n) (n2 : n ≤ 32) (pm : xs.Perm (List.range n)) : Fine n (dbl (cyc xs)):=by
 have F:=qX (by lia) n2 pm
 have nd : xs.Nodup:=pm.nodup_iff.mpr List.nodup_range
 have hl : xs.length = n:=by rw [pm.length_eq,List.length_range]
 have lt : ∀ x∈xs,x < n:=fun x hx=>List.mem_range.mp (pm.mem_iff.mp hx)
 obtain ⟨P,one⟩:=pH nd lt (by lia)
 have Q:=aDa P
 refine Fine.perm ?_ eG
 refine F.app (lN P Q (fun t ht hm=>?_) fun h=>?_)
 ·obtain ⟨u,hu,rfl⟩:=List.mem_map.mp ht
  obtain ⟨k,hk,rfl⟩:=iZ hu
  obtain ⟨j,hj,e⟩:=iZ hm
  have e1 : xs.getD k 0 = xs.getD (pk xs.length j) 0:=Int.ofNat.inj (congrArg Prod.fst e)
  have e2 : xs.getD (pk xs.length k) 0 = xs.getD j 0:=Int.ofNat.inj (congrArg Prod.snd e)
  have pj:=lM hj
  have pk':=lM hk
  rw [cQ hk,cQ pj] at e1
  rw [cQ pk',cQ hj] at e2
  have i1:=kQ nd hk pj e1
  have i2:=kQ nd pk' hj e2
  rw [← i2] at i1
  exact aD0 (by lia) hk i1.symm
 ·have o1:=one h
  have e : ((cyc xs).map swp).filter (fun t=>decide (t.1 = h)) = ((cyc xs).filter fun t=>decide (t.2 = h)).map swp:=by rw [List.filter_map]; rfl
  rw [e,List.length_map,← P.bal]
  lia
theorem vI {ps : Ts} : (dbl (ps.map swp)).Perm (dbl ps):=by
 have e : (ps.map swp).map swp = ps:=by
  rw [List.map_map]
  conv=>rhs; rw [← List.map_id ps]
  exact List.map_congr_left fun u _=>rfl
 refine eG.trans ?_
 rw [e]
 exact List.perm_append_comm.trans eG.symm
def cyc2 (xs : List Nat) : Ts:=(List.range xs.length).map fun k=>(ci (xs.getD k 0),ci (xs.getD ((k + 1) % xs.length) 0))
theorem aBP {m : Nat} : ((List.range m).map fun k=>(k + 1) % m).Perm (List.range m):=by
 cases m with
 | zero=>exact List.Perm.refl _
 | succ m =>
  rw [List.range_succ,List.map_append,List.map_singleton,Nat.mod_self]
  have e : (List.range m).map (fun k=>(k + 1) % (m + 1)) = (List.range m).map (· + 1):=List.map_congr_left fun k hk=>Nat.mod_eq_of_lt (by have:=List.mem_range.mp hk; lia)
  rw [e]
  refine List.perm_append_comm.trans ?_
  rw [← List.range_succ,List.range_succ_eq_map]
  exact List.Perm.refl _
theorem kW {xs : List Nat} : (cyc2 xs).Perm (cyc xs):=by
 have h:=(aBP (m:=xs.length)).map fun k=>(ci (xs.getD (pk xs.length k) 0),ci (xs.getD k 0))
 rw [List.map_map] at h
 refine List.Perm.trans (List.Perm.of_eq ?_) h
 unfold cyc2
 refine List.map_congr_left fun k hk=>?_
 have hk':=List.mem_range.mp hk
 have : pk xs.length ((k + 1) % xs.length) = k:=by
  by_cases c : k + 1 = xs.length
  ·rw [c,Nat.mod_self]; unfold pk; rw [if_pos rfl]; lia
  ·rw [Nat.mod_eq_of_lt (by lia)]; unfold pk; rw [if_neg (by lia)]; lia
 show _ = (ci (xs.getD (pk xs.length ((k + 1) % xs.length)) 0),ci (xs.getD ((k + 1) % xs.length) 0))
 rw [this]
theorem Fine.round {n : Nat} {ts : Ts} {xs : List Nat} (F : Fine n ts) (nd : xs.Nodup) (lt : ∀ x∈xs,x < n) (c2 : 2 ≤ xs.length) (hf : ∀ x∈xs,deg ts (ci x) ≤ 7) (hn : ∀ t∈cyc2 xs,t ∉ ts) : Fine n (ts ++ cyc2 xs):=by
 have P:=aAE F.pre nd lt c2 (fun t ht=>?_) (fun t ht=>hn t (kW.mem_iff.mpr ht))
 ·exact (F.app P).perm (List.Perm.append_left _ kW)
 ·obtain ⟨k,hk,rfl⟩:=iZ ht
  exact hf _ (kP (lM hk))
end NetM
namespace K12
open PySem L2 NetM
abbrev sPot : Stmt:=top 26
abbrev yR : Stmt:=top 27
abbrev uB : Stmt:=top 28
structure Bl2 (mg : Str→Option Value) : Prop where
 abs : mg "abs" = none
 divmod : mg "divmod" = none
 dict : mg "dict" = none
 zip : mg "zip" = none
 repr : mg "repr" = none
theorem kX {e : V→V→Bool} : ∀ {xs : List V},dZ e xs [] = decide (xs = [])
 | []=>rfl
 | x :: xs=>by simp [dZ]
def bC (H : Hp) (p : Addr) : Prop:=∃ a b : Int,H p = some (.lst [.int a,.int b])∧0 ≤ a∧0 ≤ b∧b < 4294967296
theorem bC.same {H H' : Hp} {p : Addr} (h : bC H p) (s : Same H H') : bC H' p:=let ⟨a,b,e,r⟩:=h; ⟨a,b,s _ _ e,r⟩
theorem bC.full {H : Hp} {p : Addr} (h : bC H p) : H p ≠ none:=by obtain ⟨a,b,e,_⟩:=h; rw [e]; intro z; cases z
theorem bC.ne {H : Hp} {p q : Addr} (h : bC H p) (e : H q = none) : q ≠ p:=by rintro rfl; exact h.full e
theorem bC.put {H : Hp} {p q : Addr} {o : HO} (h : bC H p) (n : p ≠ q) : bC (upd H q o) p:=let ⟨a,b,e,r⟩:=h; ⟨a,b,by rw [aH n]; exact e,r⟩
theorem bC.neT {H : Hp} {p q : Addr} {xs : List V} (h : bC H p) (e : H q = some (.tup xs)) : q ≠ p:=by rintro rfl; obtain ⟨a,b,z,_⟩:=h; rw [e] at z; cases z
theorem PO.sameE {H H' : Hp} {p : Addr} {zs : Zs} (h : PO H zs) (s : aK p H H') (hp : bC H p) : PO H' zs:=fun z hz=>s _ _ (h z hz) (hp.neT (h z hz))
theorem _root_.L2.SqL.same {K : PySem.W.Frag} {H H' : Hp} {a : Addr} {xs : List V} (h : SqL K H a xs) (s : Same H H') : SqL K H' a xs:=by
 rcases h with (h | ⟨o,h⟩) | h
 ·exact .inl (.inl (s _ _ h))
 ·exact .inl (.inr ⟨o,s _ _ h⟩)
 ·exact .inr h
theorem kY : (["_law_k", "_law_left", "_law_pot_here"] : List Str).Nodup:=by decide +kernel
section
variable {P : Program} {w : World} {K : PySem.W.Frag} {mg : Str→Option Value} {base : Heap}
theorem oI : aZ ["_law_script", "_law_k", "_law_cell", "_law_rest"] ["_law_script", "_law_k"] (aM sPot):=⟨rfl,rfl,rfl,by decide +kernel,rfl,by decide +kernel,by decide +kernel⟩
def yS (K : PySem.W.Frag) : Sp:=fun vs H Q _=>∃ (a : Addr) (ns : List Int) (k : Nat),vs = [.ref a,.int k]∧SqL K H a (ns.map V.int)∧k < 64∧∀ (r : Addr) (H' : Hp),Same H H'→H r = none→bC H' r→Q (.ref r) H'
theorem aD1 {f : Addr} {fd : FuncData} (F : Fun K "_law_pot" "_law_pot" sPot f fd) (B : Bl mg) (B2 : Bl2 mg) : FnOk P w K mg base CX0 1 f fd ["_law_script", "_law_k"] (yS K):=by
 refine F.ok oI (fun vs H Q E h=>?_) (fun cdv A outer s H vs Q E hr h=>?_)
 ·obtain ⟨a,ns,k,rfl,_⟩:=h
  rfl
 ·obtain ⟨a,ns,k,rfl,hS,hk,q⟩:=h
  refine ⟨_,(aE (cV (bA (aA aI (aA aI aB))) (dH (n:=2) rfl (bF (aL (i:=2) oI.nd rfl (Or.inl rfl)) (bF (aL (i:=3) oI.nd rfl (Or.inl rfl)) cN))))
   (aE (bG (aQ (sR (e:=eqV) hr.u) (pv 0) (bW aB) (aV _)) (aG (aS (i:=2) oI.nd rfl (Or.inl rfl) (aN aBi (by rfl) B2.abs PyProof.Rows.boot_abs (aA (aX bB (pv 0) (aY eE (pv 1) (aN aT (by rfl) B.len PySem.boot_len (aA (pv 0) aB))) (fun _ _=>rfl)) aB)))) aW)
   (aE (bG (aQ gG (pv 1) (aN aT (by rfl) B.len PySem.boot_len (aA (pv 0) aB)) (aV _)) (aG (aS (i:=3) oI.nd rfl (Or.inl rfl) (aN (jZ rfl) (by rfl) B.max PyProof.Rows.boot_max (aA aI (aA (aY iU (pv 2) (aY rY aI aI)) aB))))) aW)
   (aG (aU (bW (aA (pv 3) (aA (aY cJ (aY cJ (aY eE (aY fE (aY cJ (aY eE (pv 2) aI) aI) (aY cJ (pv 1) aI)) aI) (aY fE aI (pv 1))) aI) aB)))))))),?_⟩
  refine ⟨by show 2 ≤ sizeLine; decide,fun T0 hT0=>⟨T0,_,rfl,SqT.of aD,rfl,_,_,rfl,_,_,rfl,rfl,?_⟩⟩
  have sT:=aF (o:=.tup [.int 0,.int 0]) hT0
  dsimp only
  refine iK (fun σ Hc=>Same H Hc∧∃ c : Int,0 ≤ c∧σ = [some (.ref a),some (.int k),some (.int c),some (.int 0)]) ?_ ?_
  ·rintro σ Hc ⟨sc,c,c0,rfl⟩
   have m0 : 0 ≤ c % 2147483579:=Int.emod_nonneg _ (by decide)
   have m1 : c % 2147483579 < 2147483579:=Int.emod_lt_of_pos _ (by decide)
   refine iK (fun σ Hd=>Hd = Hc∧∃ d : Int,0 ≤ d∧σ = [some (.ref a),some (.int k),some (.int c),some (.int d)]) ?_ ?_
   ·rintro σ Hd ⟨rfl,d,d0,rfl⟩
    refine ⟨_,rfl,_,rfl,_,_,rfl,rfl,(by show (0 : Int) < 2147483579; decide),_,_,rfl,rfl,_,rfl,_,_,rfl,rfl,_,_,rfl,rfl,.inl ⟨by lia,by lia⟩,_,_,rfl,rfl,(by show (0 : Int) < 2147483579; decide),_,rfl,_,_,rfl,rfl,.inl ⟨by decide,by decide⟩,_,_,rfl,rfl,_,_,rfl,rfl,by show 2 ≤ sizeLine; decide,fun r hr'=>?_⟩
    have v0 : 0 ≤ (c % 2147483579 + 1) * ((k : Int) + 1) % 2147483579:=Int.emod_nonneg _ (by decide)
    have v1 : (c % 2147483579 + 1) * ((k : Int) + 1) % 2147483579 < 2147483579:=Int.emod_lt_of_pos _ (by decide)
    refine q r _ (sc.trans (aF hr')) (sc.free hr') ⟨_,_,aD,d0,?_,?_⟩
    ·generalize (c % 2147483579 + 1) * ((k : Int) + 1) % 2147483579 = z at *
     lia
    ·generalize (c % 2147483579 + 1) * ((k : Int) + 1) % 2147483579 = z at *
     lia
   ·intro N hN
    refine ⟨_,rfl,_,rfl,a,_,rfl,.inl (hS.same sc),_,_,rfl,rfl,_,rfl,ite2 (fun e=>?_) (fun e=>hN _ _ ⟨rfl,0,by decide,rfl⟩)⟩
    exact ⟨_,rfl,_,_,rfl,rfl,⟨by decide,by decide,by decide⟩,_,_,rfl,rfl,0,_,rfl,hN _ _ ⟨rfl,_,by split <;> lia,rfl⟩⟩
  ·intro N hN
   refine ⟨_,rfl,by show 0 ≤ sizeLine; decide,fun E1 hE1=>?_⟩
   have sE:=sT.trans (aF (o:=.lst []) hE1)
   have S1:=hS.same sE
   refine ⟨a,E1,_,[],rfl,rfl,S1,SqL.of aD,fun i h1 h2=>absurd h2 (by simp),_,rfl,?_⟩
   rw [if_pos rfl,kX]
   by_cases e : ns.map V.int = []
   ·rw [decide_eq_true e]
    exact iteF (hN _ _ ⟨sE,0,by decide,rfl⟩)
   ·rw [decide_eq_false e]
    have hl : 0 < ns.length:=by
     rcases ns with _ | ⟨x,xs⟩
     ·exact absurd rfl e
     ·simp
    have hm : k % ns.length < ns.length:=Nat.mod_lt _ hl
    refine iteT ⟨_,rfl,_,rfl,_,rfl,a,_,rfl,.inl S1,_,_,rfl,rfl,(by show (0 : Int) < (((ns.map V.int).length : Nat) : Int); rw [List.length_map]; lia),a,_,_,.int ns[k % ns.length],rfl,rfl,S1,?_,_,rfl,hN _ _ ⟨sE,_,?_,rfl⟩⟩
    ·rw [List.length_map]
     have : ((k : Int) % ((ns.length : Nat) : Int)) = ((k % ns.length : Nat) : Int):=rfl
     rw [this]
     exact aP (by rw [List.getElem?_map,List.getElem?_eq_getElem hm]; rfl)
    ·split <;> lia
theorem aAU : aZ ["_law_pot_here", "_law_many", "_law_digit"] ["_law_pot_here", "_law_many"] (aM yR):=⟨rfl,rfl,rfl,by decide +kernel,rfl,by decide +kernel,by decide +kernel⟩
def cY : Sp:=fun vs H Q _=>∃ (p : Addr) (m : Nat),vs = [.ref p,.int m]∧0 < m∧m < 1000000∧bC H p∧∀ (d : Nat) (H' : Hp),d < m→aK p H H'→bC H' p→Q (.int d) H'
theorem aDb {f : Addr} {fd : FuncData} (F : Fun K "_law_take" "_law_take" yR f fd) (B2 : Bl2 mg) : FnOk P w K mg base CX0 1 f fd ["_law_pot_here", "_law_many"] cY:=by
 refine F.ok aAU (fun vs H Q E h=>?_) (fun cdv A outer s H vs Q E hr h=>?_)
 ·obtain ⟨p,m,rfl,_⟩:=h
  rfl
 ·obtain ⟨p,m',rfl,m0',m1',⟨a,b,hp,a0,b0,b1⟩,q'⟩:=h
  generalize hm : ((m' : Nat) : Int) = m
  have m0 : 0 < m:=by lia
  have m1 : m < 1000000:=by lia
  have q : ∀ (d a b : Int) (H' : Hp),0 ≤ d→d < m→0 ≤ a→0 ≤ b→b < 4294967296→aK p H H'→H' p = some (.lst [.int a,.int b])→Q (.int d) H':=fun d a b H' h1 h2 h3 h4 h5 h6 h7=>by
   have:=q' d.toNat H' (by lia) h6 ⟨a,b,h7,h3,h4,h5⟩
   rw [Int.toNat_of_nonneg h1] at this
   exact this
  refine ⟨_,(aE (bG (aQ rJ (aX bB (pv 0) aI (fun _ _=>rfl)) aI (aV _)) (aE (cV (aN uR (by rfl) B2.divmod PyProof.Rows.boot_divmod (aA (aX bB (pv 0) aI (fun _ _=>rfl)) (aA (pv 1) aB))) (dH (n:=2) rfl (bF (hU (pv 0) aI eY) (bF (aL (i:=2) aAU.nd rfl (Or.inl rfl)) cN))))
    (aG (aU (pv 2)))) aW)
   (aE (cV (aY eE (aY cJ (aY fE (aX bB (pv 0) aI (fun _ _=>rfl)) aI) aI) aI) (hU (pv 0) aI eY))
   (aG (aU (aY eE (aY pA (aY eE (aY fE (aX bB (pv 0) aI (fun _ _=>rfl)) (aX bB (pv 0) aI (fun _ _=>rfl))) aI) aI) (pv 1)))))),?_⟩
  have g0 : atI [V.int a,V.int b] 0 = some (.int a):=aP (j:=0) rfl
  have g1 : atI [V.int a,V.int b] 1 = some (.int b):=aP (j:=1) rfl
  refine ⟨_,rfl,p,_,_,_,rfl,rfl,SqL.of hp,g0,_,_,rfl,rfl,_,rfl,?_⟩
  refine ite2 (fun e=>?_) (fun e=>?_)
  ·refine ⟨_,rfl,p,_,_,_,rfl,rfl,SqL.of hp,g0,_,rfl,_,_,rfl,⟨m0,by lia⟩,fun t ht=>?_⟩
   have npt : p ≠ t:=aJ hp ht
   refine ⟨t,_,rfl,SqT.of aD,rfl,_,_,rfl,?_⟩
   refine ⟨_,rfl,p,_,0,0,rfl,rfl,by rw [aH npt]; exact hp,eO (j:=0) (by show 0 < 2; decide),_,_,rfl,rfl,_,rfl,?_⟩
   exact q _ _ _ _ (Int.emod_nonneg _ (by lia)) (Int.emod_lt_of_pos _ m0) (Int.ediv_nonneg a0 (by lia)) b0 b1 (fun c o e n=>by rw [aH n,aH (aJ e ht)]; exact e) aD
  ·refine ⟨_,rfl,p,_,_,_,rfl,rfl,SqL.of hp,g1,_,_,rfl,rfl,.inl ⟨by lia,by lia⟩,_,_,rfl,rfl,_,_,rfl,rfl,(by show (0 : Int) < 2147483587; decide),?_⟩
   refine ⟨_,rfl,p,_,1,1,rfl,rfl,hp,eO (j:=1) (by show 1 < 2; decide),?_⟩
   have c0 : 0 ≤ (b * 48283 + 10007) % 2147483587:=Int.emod_nonneg _ (by decide)
   have c1 : (b * 48283 + 10007) % 2147483587 < 2147483587:=Int.emod_lt_of_pos _ (by decide)
   refine ⟨_,rfl,p,_,_,_,rfl,rfl,SqL.of aD,aP (j:=1) rfl,_,rfl,p,_,_,_,rfl,rfl,SqL.of aD,aP (j:=1) rfl,_,_,rfl,rfl,.inl ⟨by lia,by lia⟩,_,_,rfl,rfl,(by show (0 : Int) < 2147483549; decide),_,_,rfl,rfl,⟨by decide,by decide⟩,_,rfl,_,_,rfl,rfl,m0,?_⟩
   exact q _ _ _ _ (Int.emod_nonneg _ (by lia)) (Int.emod_lt_of_pos _ m0) a0 c0 (by lia) aK.upd aD
theorem mV : ∀ {xs : List Nat} {k : Nat},(NV xs).eraseIdx k = NV (xs.eraseIdx k)
 | [],_=>rfl
 | x :: xs,0=>rfl
 | x :: xs,k + 1=>congrArg (V.int (x : Nat) :: ·) (mV (xs:=xs) (k:=k))
theorem oJ : ∀ {ls : List Nat} {k : Nat} (hk : k < ls.length),(ls[k] :: ls.eraseIdx k).Perm ls
 | x :: xs,0,_=>List.Perm.refl _
 | x :: xs,k + 1,h=>(List.Perm.swap x _ _).trans ((oJ (ls:=xs) (k:=k) (by simpa using h)).cons x)
theorem aBQ {xs ls : List Nat} {k v : Nat} {r : List Nat} (p : (xs ++ ls).Perm r) (h : ls[k]? = some v) : (xs ++ [v] ++ ls.eraseIdx k).Perm r:=by
 refine List.Perm.trans ?_ p
 rw [List.append_assoc]
 refine List.Perm.append_left _ ?_
 obtain ⟨hk,e⟩:=List.getElem?_eq_some_iff.mp h
 subst e
 exact oJ hk
theorem wU : aZ ["_law_pot_here", "_law_many", "_law_left"] ["_law_pot_here", "_law_many"] (aM uB):=⟨rfl,rfl,rfl,by decide +kernel,rfl,by decide +kernel,by decide +kernel⟩
def lV : Sp:=fun vs H Q _=>∃ (p : Addr) (m : Nat),vs = [.ref p,.int m]∧m ≤ 32∧bC H p∧∀ (r : Addr) (xs : List Nat) (H' : Hp),aK p H H'→bC H' p→H r = none→H' r = some (.lst (NV xs))→xs.Perm (List.range m)→Q (.ref r) H'
theorem aBR {f : Addr} {fd : FuncData} (F : Fun K "_law_order" "_law_order" uB f fd) (B : Bl mg) (D : Cal P w K mg base CX0 1 "_law_take" ["_law_pot_here", "_law_many"] cY) : FnOk P w K mg base CX0 2 f fd ["_law_pot_here", "_law_many"] lV:=by
 refine F.ok wU (fun vs H Q E h=>?_) (fun cdv A outer s H vs Q E hr h=>?_)
 ·obtain ⟨p,m,rfl,_⟩:=h
  rfl
 ·obtain ⟨p,m,rfl,hm,hp,q⟩:=h
  refine' ⟨_,(aE (aS (i:=2) wU.nd rfl (Or.inr rfl) (cT (xY rfl) (by rfl) B.lst PyProof.Rows.boot_list (aA (cT uW (by rfl) B.range PyProof.Rows.boot_range (aA (pv 1) aB)) aB)))
   (aG (aU ?c1))),?_⟩
  case c1 =>
   refine' bZ (g:=(bL 0)) (te:=(tBM K "list" zW (tVar 1) (bE (lE cY [] E0 (bE (tVar 2) (bE (tCB (fun xs H Q=>∃ p ys,xs = [V.ref p]∧(SqL K H p ys∨SqT K H p ys)∧Q (.int ys.length) H) (bE (tVar 1) tNil)) tNil))) tNil))) (NB:=["_law_k", "_law_left", "_law_pot_here"]) (src:=[none,some 2,some 0]) (bR (by kernel_rfl)) rfl (bH rfl B.range (aA (pv 1) aB)) ?g ?t ?e
   case g=>exact fun cl C s₃ H₃ fp=>(aL (i:=0) kY rfl (Or.inl rfl) (Or.inr rfl))
   case t=>exact fun cl C s₃ H₃ fp=>cE
   case e=>exact fun cl C s₃ H₃ fp=>(eK PySem.F.plainAttrs_list PySem.F.slot_list_pop PySem.F.type_list_pop sD (pv 1) (aA (aO D hr aR (aA (pv 2) (aA (aN aT (by rfl) B.len PySem.boot_len (aA (pv 1) aB)) aB))) aB))
  refine ⟨_,rfl,m,rfl,fun R hR=>⟨R,m,rfl,aD,by lia,fun L hL=>?_⟩⟩
  have s0 : Same H (upd (upd H R (.rng 0 m)) L (.lst (NV (List.range m)))):=(aF hR).trans (aF hL)
  have hLH : H L = none:=(aF hR).free hL
  refine ⟨_,rfl,m,rfl,by lia,by lia,fun D' hD=>?_⟩
  have hDH : H D' = none:=s0.free hD
  have npL : L ≠ p:=hp.ne hLH
  have npD : D' ≠ p:=hp.ne hDH
  have nLD : L ≠ D':=aJ aD hD
  refine dO (n:=m) (lo:=0) (fun i ys σ H2=>(∃ k,σ = [k,some (.ref L),some (.ref p)])∧aK p H H2∧bC H2 p∧∃ ls xs : List Nat,H2 L = some (.lst (NV ls))∧H2 D' = some (.lst ys)∧ys = NV xs∧(xs ++ ls).Perm (List.range m)∧xs.length = i)
   ⟨⟨_,rfl⟩,aK.of (s0.trans (aF hD)),(hp.same s0).same (aF hD),List.range m,[],by rw [aH nLD,aD],aD,rfl,List.Perm.refl _,rfl⟩ ?_ ?_
  ·rintro i ys σ H2 Kt Kf hi ⟨⟨k',rfl⟩,sm,hp2,ls,xs,hL2,hD2,rfl,pm,xl⟩ kt kf
   have ll : ls.length = m - i:=by have:=pm.length_eq; rw [List.length_append,List.length_range] at this; lia
   refine ⟨_,rfl,.inl ⟨rfl,_,SqL.of hL2⟩,_,rfl,_,rfl,L,_,rfl,.inl (SqL.of hL2),p,_,rfl,by rw [bD]; lia,by rw [bD]; lia,hp2,fun d H3 hd s3 hp3=>?_⟩
   rw [bD] at hd
   have hv : ls[d]? = some ls[d]:=List.getElem?_eq_getElem hd
   refine ⟨L,_,(d : Int),d,.int (ls[d] : Nat),rfl,rfl,s3 _ _ hL2 npL,by lia,by lia,(lF (eO (by rw [bD]; exact hd))).1,by unfold NV; rw [List.getElem?_map,hv]; rfl,?_⟩
   refine kt _ _ _ (by rw [aH nLD.symm]; exact s3 _ _ hD2 npD) (by rw [bD,xl]; exact Nat.lt_of_lt_of_le (show i < 33 by lia) (by decide)) ⟨⟨_,rfl⟩,fun b o e n=>?_,?_,ls.eraseIdx d,xs ++ [ls[d]],by rw [aH nLD,aD,mV],aD,by rw [pM],aBQ pm hv,by rw [List.length_append,xl]; rfl⟩
   ·rw [aH (aJ e hDH),aH (aJ e hLH)]
    exact s3 _ _ (sm _ _ e n) n
   ·exact (hp3.put npL.symm).put npD.symm
  ·rintro ys σ H2 ⟨_,sm,hp2,ls,xs,hL2,hD2,rfl,pm,xl⟩
   have ll : ls = []:=by
    have:=pm.length_eq
    rw [List.length_append,List.length_range,xl] at this
    exact List.length_eq_zero_iff.mp (by lia)
   subst ll
   rw [List.append_nil] at pm
   exact q D' xs H2 sm hp2 hDH hD2 pm
end
end K12
namespace K12
open PySem L2 NetM
abbrev yT : Stmt:=top 29
abbrev yU : Stmt:=top 30
theorem vJ : (["_law_one", "_law_many"] : List Str).Nodup:=by decide +kernel
theorem mW {α : Type} {x : α} : ∀ {k : Nat},(List.replicate k [x]).flatten = List.replicate k x
 | 0=>rfl
 | k + 1=>by rw [List.replicate_succ,List.flatten_cons,mW,List.replicate_succ]; rfl
theorem fN {A B : Prop} {b : Bool} (hb : b = true) (h : A) : if b = true then A else B:=by rw [if_pos hb]; exact h
theorem iL {A B : Prop} {b : Bool} (hb : b = false) (h : B) : if b = true then A else B:=by rw [if_neg (by rw [hb]; decide)]; exact h
def iM (H : Hp) (D : Addr) (ts : Ts) (H2 : Hp) : Prop:=Same H H2∧∃ zs : Zs,H2 D = some (.lst (zr zs))∧PO H2 zs∧zp zs = ts
theorem pO {lo : Int} {n : Nat} {D : Addr} {g : TG} {tt : TT} {te : TE} {fin : Hp→Prop} {σB : St} {H0 : Hp} (c : Nat→Bool) (shape : St→Prop) (hD : H0 D = none) (hn : n ≤ 1000) (h0 : shape σB)
  (hs : ∀ x σ H (Kt : V→St→Hp→Prop) (Kf : St→Hp→Prop),x < n→shape σ→Same H0 H→(∀ σ2 H2,shape σ2→Same H H2→c x = true→Kt (.int (lo + (x : Nat))) σ2 H2)→(∀ σ2 H2,shape σ2→Same H H2→c x = false→Kf σ2 H2) →
   g (.int (lo + (x : Nat))) σ H fun σ2 H2=>tt σ2 H2 fun b H3=>if b = true then te σ2 H3 fun v H4=>Kt v σ2 H4 else Kf σ2 H3)
  (hd : ∀ H,Same H0 H→H D = some (.lst (((List.range n).filter c).map fun (x : Nat)=>V.int (lo + (x : Int))))→fin H) : dL (Itr lo n) g tt te D fin σB (upd H0 D (.lst [])):=by
 refine dO (fun i ys σ H=>shape σ∧Same H0 H∧H D = some (.lst ys)∧ys = ((List.range i).filter c).map fun (x : Nat)=>V.int (lo + (x : Int))) ⟨h0,aF hD,aD,rfl⟩ ?_ ?_
 ·rintro i ys σ H Kt Kf hi ⟨sh,sm,hDl,rfl⟩ kt kf
  refine hs i σ H Kt Kf hi sh sm (fun σ2 H2 sh2 s2 e=>?_) (fun σ2 H2 sh2 s2 e=>?_)
  ·refine kt _ _ _ (s2 _ _ hDl) ?_ ⟨sh2,bV (sm.trans s2) hD,aD,?_⟩
   ·rw [List.length_map]
    refine Nat.lt_of_le_of_lt (List.length_filter_le _ _) ?_
    rw [List.length_range]
    exact Nat.lt_of_lt_of_le (show i < 1000 by lia) (by decide)
   ·rw [List.range_succ,List.filter_append,List.map_append]
    simp [List.filter_cons,e]
  ·refine kf _ _ ⟨sh2,sm.trans s2,s2 _ _ hDl,?_⟩
   rw [List.range_succ,List.filter_append]
   simp [List.filter_cons,e]
 ·rintro ys σ H ⟨_,sm,hDl,rfl⟩
  exact hd H sm hDl
theorem oK : ∀ {xs : List Nat} {j x : Nat},(NV xs).set j (.int (x : Int)) = NV (xs.set j x)
 | [],_,_=>rfl
 | y :: ys,0,x=>rfl
 | y :: ys,j + 1,x=>congrArg (V.int (y : Int) :: ·) (oK (xs:=ys) (j:=j) (x:=x))
theorem eA {xs : List Nat} {j : Nat} (h : j < xs.length) : (NV xs)[j]? = some (.int ((xs.getD j 0 : Nat) : Int)):=by
 unfold NV
 rw [List.getElem?_map,List.getD_eq_getElem?_getD,List.getElem?_eq_getElem h]; rfl
def degL (n : Nat) (ps : Ts) : List Nat:=(List.range n).map fun (h : Nat)=>deg (dbl ps) (ci h)
theorem fV {n : Nat} {ps : Ts} : (degL n ps).length = n:=by unfold degL; rw [List.length_map,List.length_range]
theorem mX {n : Nat} {ps : Ts} {h : Nat} (hh : h < n) : (degL n ps).getD h 0 = deg (dbl ps) (ci h):=by
 unfold degL
 rw [List.getD_eq_getElem?_getD,List.getElem?_map,List.getElem?_range hh]; rfl
theorem aBS {n : Nat} {ps : Ts} {a b : Nat} (ha : a < n) (hb : b < n) (hab : a ≠ b) : ((degL n ps).set a (deg (dbl ps) (ci a) + 1)).set b (deg (dbl ps) (ci b) + 1) = degL n (ps ++ [(ci a,ci b)]):=by
 have ne : ∀ x y : Nat,ci x = ci y→x = y:=fun x y e=>Int.ofNat.inj e
 refine List.ext_getElem? fun i=>?_
 by_cases hi : i < n
 ·have g : ∀ qs : Ts,(degL n qs)[i]? = some (deg (dbl qs) (ci i)):=fun qs=>by unfold degL; rw [List.getElem?_map,List.getElem?_range hi]; rfl
  rw [g,aC7,List.getElem?_set,List.getElem?_set,g,List.length_set,fV]
  by_cases c1 : b = i
  ·subst c1
   rw [if_pos rfl,if_pos hb,if_neg (fun z=>hab (ne _ _ z)),if_pos rfl,Nat.zero_add]
  ·rw [if_neg c1,if_neg (fun z=>c1 (ne _ _ z))]
   by_cases c2 : a = i
   ·subst c2
    rw [if_pos rfl,if_pos ha,if_pos rfl]
   ·rw [if_neg c2,if_neg (fun z=>c2 (ne _ _ z))]; rfl
 ·rw [List.getElem?_eq_none (by rw [List.length_set,List.length_set,fV]; lia),List.getElem?_eq_none (by rw [fV]; lia)]
theorem aBT {n : Nat} : List.replicate n (V.int 0) = NV (degL n []):=by
 refine List.ext_getElem? fun i=>?_
 unfold NV degL
 rw [List.map_map,List.getElem?_replicate,List.getElem?_map]
 by_cases hi : i < n
 ·rw [if_pos hi,List.getElem?_range hi]; rfl
 ·rw [if_neg hi,List.getElem?_eq_none (by rw [List.length_range]; lia)]; rfl
section
variable {P : Program} {w : World} {K : PySem.W.Frag} {mg : Str→Option Value} {base : Heap}
theorem oM : aZ ["_law_pairs", "_law_ties", "_law_one", "_law_other_here"] ["_law_pairs"] (aM yT):=⟨rfl,rfl,rfl,by decide +kernel,rfl,by decide +kernel,by decide +kernel⟩
def uC : Sp:=fun vs H Q _=>∃ (l : Addr) (zs : Zs),vs = [.ref l]∧H l = some (.lst (zr zs))∧PO H zs∧zs.length ≤ 1000∧∀ (r : Addr) (zs' : Zs) (H' : Hp),Same H H'→H r = none→H' r = some (.lst (zr zs'))→PO H' zs'→zp zs' = dbl (zp zs)→Q (.ref r) H'
theorem aDc {f : Addr} {fd : FuncData} (F : Fun K "_law_both" "_law_both" yT f fd) : FnOk P w K mg base CX0 1 f fd ["_law_pairs"] uC:=by
 refine F.ok oM (fun vs H Q E h=>?_) (fun cdv A outer s H vs Q E hr h=>?_)
 ·obtain ⟨l,zs,rfl,_⟩:=h
  rfl
 ·obtain ⟨l,zs,rfl,hl,po,hz,q⟩:=h
  refine ⟨_,(aE (aS (i:=1) oM.nd rfl (Or.inl rfl) (bW aB))
   (aE (cA PassesOwn.never rfl (cC (pv 0)) (dH (n:=2) rfl (bF (aL (i:=2) oM.nd rfl (Or.inl rfl)) (bF (aL (i:=3) oM.nd rfl (Or.inl rfl)) cN)))
    (aG (cM (eK PySem.F.plainAttrs_list PySem.F.slot_list_extend PySem.F.type_list_extend kD (pv 1) (aA (bW (aA (bA (aA (pv 2) (aA (pv 3) aB))) (aA (bA (aA (pv 3) (aA (pv 2) aB))) aB))) aB)))))
   (aG (aU (pv 1))))),?_⟩
  refine ⟨by show 0 ≤ sizeLine; decide,fun D hD=>?_⟩
  have s0:=aF (o:=.lst []) hD
  refine ⟨_,rfl,l,rfl,⟨_,SqL.of (s0 _ _ hl)⟩,jH (K:=K) (xs:=zr zs) (fun i σ H2=>(∃ x y,σ = [some (.ref l),some (.ref D),x,y])∧iM H D (dbl ((zp zs).take i)) H2) ⟨⟨_,_,rfl⟩,s0,[],aD,PO.nil,rfl⟩ (fun i σ H2 _ z=>SqL.of (z.2.1 _ _ hl)) ?_ ?_⟩
  ·rintro i x σ H2 hx ⟨⟨x',y',rfl⟩,sm,zs2,hD2,po2,ez⟩
   obtain ⟨z,hz',rfl⟩:=jC hx
   have hi : i < zs.length:=(List.getElem?_eq_some_iff.mp hz').1
   have hzz:=sm _ _ (po z (List.mem_of_getElem? hz'))
   obtain ⟨za,a,b⟩:=z
   refine ⟨za,_,rfl,SqT.of hzz,rfl,_,_,rfl,_,_,rfl,rfl,?_⟩
   refine ⟨_,rfl,.inl ⟨rfl,_,SqL.of hD2⟩,_,rfl,_,rfl,by show 2 ≤ sizeLine; decide,fun t1 h1=>⟨_,rfl,_,rfl,by show 2 ≤ sizeLine; decide,fun t2 h2=>⟨by show 2 ≤ sizeLine; decide,fun L hL=>?_⟩⟩⟩
   have u1:=aF (o:=prT (a,b)) h1
   have u2:=aF (o:=prT (b,a)) h2
   have u3:=aF (o:=.lst [.ref t1,.ref t2]) hL
   have g1:=u3 _ _ (u2 _ _ (aD (H:=H2) (a:=t1) (o:=prT (a,b))))
   have g2:=u3 _ _ (aD (H:=upd H2 t1 (prT (a,b))) (a:=t2) (o:=prT (b,a)))
   have s3:=(u1.trans u2).trans u3
   have hl2 : zs2.length = 2 * i:=by
    have:=congrArg List.length ez
    rw [bJ,fA,List.length_take,bJ] at this
    lia
   have gD:=s3 _ _ hD2
   refine ⟨D,L,_,_,rfl,rfl,gD,aD,?_,⟨_,_,rfl⟩,bV (sm.trans s3) hD,zs2 ++ [(t1,(a,b)),(t2,(b,a))],?_,?_,?_⟩
   ·rw [cF,hl2]
    exact Nat.le_trans (show 2 * i + 2 ≤ 2002 by lia) (by decide)
   ·rw [aD,dD]; rfl
   ·refine PO.putL (xs:=zr zs2) ((po2.same s3).append fun z hz=>?_) gD
    rcases List.mem_cons.mp hz with rfl | hz
    ·exact g1
    ·rw [List.mem_singleton.mp hz]; exact g2
   ·rw [dE,ez]
    have tk : (zp zs).take (i + 1) = (zp zs).take i ++ [(a,b)]:=by
     rw [List.take_add_one]
     unfold zp
     rw [List.getElem?_map,hz']; rfl
    rw [tk,gK]; rfl
  ·rintro σ H2 ⟨⟨x',y',rfl⟩,sm,zs2,hD2,po2,ez⟩
   rw [cF,← bJ,List.take_length] at ez
   exact ⟨_,rfl,q D zs2 H2 sm hD hD2 po2 ez⟩
theorem jD : aZ ["_law_pot_here", "_law_n", "_law_pairs", "_law_many", "_law_house", "_law_some", "_law_one"] ["_law_pot_here", "_law_n"] (aM yU):=⟨rfl,rfl,rfl,by decide +kernel,rfl,by decide +kernel,by decide +kernel⟩
def iH : Sp:=fun vs H Q _=>∃ (p : Addr) (n : Nat),vs = [.ref p,.int n]∧2 ≤ n∧n ≤ 32∧bC H p∧∀ (r : Addr) (zs : Zs) (H' : Hp),aK p H H'→bC H' p→H r = none→H' r = some (.lst (zr zs))→PO H' zs→Fine n (dbl (zp zs))→(∀ u∈zp zs,u.1 < u.2)→Q (.ref r) H'
theorem aDd {f : Addr} {fd : FuncData} (F : Fun K "_law_tree" "_law_tree" yU f fd) (B : Bl mg) (D : Cal P w K mg base CX0 1 "_law_take" ["_law_pot_here", "_law_many"] cY) : FnOk P w K mg base CX0 2 f fd ["_law_pot_here", "_law_n"] iH:=by
 refine F.ok jD (fun vs H Q E h=>?_) (fun cdv A outer s H vs Q E hr h=>?_)
 ·obtain ⟨p,n,rfl,_⟩:=h
  rfl
 ·obtain ⟨p,n,rfl,n1,n2,hp,q⟩:=h
  refine' ⟨_,(aE (aS (i:=2) jD.nd rfl (Or.inl rfl) (bW aB))
   (aE (aS (i:=3) jD.nd rfl (Or.inr rfl) (aY zX (bW (aA aI aB)) (pv 1)))
   (aE (cA PassesOwn.never rfl (jX rfl B.range (aA aI (aA (pv 1) aB))) (aL (i:=4) jD.nd rfl (Or.inl rfl))
    (aE (dB (i:=5) (g:=(bL 0)) (tt:=(gI (tOp (rI0 fun i j=>.bl (decide (i < j))) (tOp (rIxL K) (tVar 1) (tVar 0)) (tC (.int 8))))) (te:=(tVar 0)) (NB:=["_law_one", "_law_many"]) (src:=[none,some 3]) (bR (by kernel_rfl)) rfl (bH rfl B.range (aA (pv 4) aB)) ?g1 ?t1 ?e1 jD.nd rfl rfl rfl)
    (aE (aS (i:=6) jD.nd rfl (Or.inl rfl) (aX bB (pv 5) (aO D hr aR (aA (pv 0) (aA (aN aT (by rfl) B.len PySem.boot_len (aA (pv 5) aB)) aB))) (fun _ _=>rfl)))
    (aE (cM (eK PySem.F.plainAttrs_list PySem.F.slot_list_append PySem.F.type_list_append dJ (pv 2) (aA (bA (aA (pv 6) (aA (pv 4) aB))) aB)))
    (aE (cV (aY cJ (aX bB (pv 3) (pv 6) (fun _ _=>rfl)) aI) (hU (pv 3) (pv 6) eY))
    (aG (cV (aY cJ (aX bB (pv 3) (pv 4) (fun _ _=>rfl)) aI) (hU (pv 3) (pv 4) eY))))))))
   (aG (aU (pv 2)))))),?_⟩
  case g1=>exact fun cl C s₃ H₃ fp=>(aL (i:=0) vJ rfl (Or.inl rfl) (Or.inr rfl))
  case t1=>exact fun cl C s₃ H₃ fp=>eN (aQ gG (aX bB (pv 1) (pv 0) (fun _ _=>rfl)) aI (aV _))
  case e1=>exact fun cl C s₃ H₃ fp=>(pv 0)
  refine ⟨by show 0 ≤ sizeLine; decide,fun Pr hPr=>?_⟩
  have sP:=aF (o:=.lst []) hPr
  refine ⟨by show 1 ≤ sizeLine; decide,fun L1 hL1=>⟨_,rfl,L1,_,_,rfl,rfl,aD,by lia,by lia,by rw [Int.toNat_natCast,List.length_singleton]; exact Nat.le_trans (show 1 * n ≤ 32 by lia) (by decide),fun M hM=>?_⟩⟩
  rw [Int.toNat_natCast,mW,aBT]
  have s1:=sP.trans (aF (o:=.lst [.int 0]) hL1)
  have s2:=s1.trans (aF (o:=.lst (NV (degL n []))) hM)
  have gP : (upd (upd (upd H Pr (.lst [])) L1 (.lst [.int 0])) M (.lst (NV (degL n [])))) Pr = some (.lst (zr [])):=aF hM _ _ (aF hL1 _ _ aD)
  have gM : (upd (upd (upd H Pr (.lst [])) L1 (.lst [.int 0])) M (.lst (NV (degL n [])))) M = some (.lst (NV (degL n []))):=aD
  have nPM : Pr ≠ M:=aJ (aF hL1 _ _ aD) hM
  have hMH : H M = none:=s1.free hM
  generalize upd (upd (upd H Pr _) L1 _) M _ = H0 at *
  refine ⟨_,rfl,1,(n : Int),rfl,⟨by decide,by decide,by lia,by lia⟩,?_⟩
  rw [show ((n : Int) - 1).toNat = n - 1 by lia]
  refine bY (lo:=1) (n:=n - 1) (fun i σ Hc=>∃ zs : Zs,(∃ a b c,σ = [some (.ref p),some (.int n),some (.ref Pr),some (.ref M),a,b,c])∧aK p H Hc∧bC Hc p∧Hc Pr = some (.lst (zr zs))∧PO Hc zs∧Hc M = some (.lst (NV (degL n (zp zs))))∧Tree n (List.range n) (i + 1) (dbl (zp zs))∧∀ u∈zp zs,u.1 < u.2)
   ⟨[],⟨none,none,none,rfl⟩,aK.of s2,hp.same s2,gP,PO.nil,gM,Tree.start (by rw [List.length_range]; lia),fun u hu=>nomatch hu⟩ ?_ ?_
  ·rintro i σ Hc hi ⟨zs,⟨a,b,c,rfl⟩,sc,hpc,hPc,po,hMc,Tr,inc⟩
   have e1 : (1 : Int) + (i : Int) = ((i + 1 : Nat) : Int):=by lia
   rw [e1]
   have hzl : zs.length = i:=by have:=Tr.len; rw [fA,bJ] at this; lia
   refine ⟨_,rfl,((i + 1 : Nat) : Int),rfl,by lia,by lia,fun D1 hD1=>?_⟩
   rw [show (((i + 1 : Nat) : Int)).toNat = i + 1 from rfl]
   refine pO (lo:=0) (n:=i + 1) (fun x=>decide (deg (dbl (zp zs)) (ci x) < 8)) (fun σ=>∃ a,σ = [a,some (.ref M)]) hD1 (by lia) ⟨_,rfl⟩ ?_ ?_
   ·rintro x σ H4 Kt Kf hx ⟨a',rfl⟩ sm4 kt kf
    rw [Int.zero_add] at kt ⊢
    have hx' : x < (degL n (zp zs)).length:=by rw [fV]; lia
    refine ⟨_,rfl,_,rfl,M,_,_,_,rfl,rfl,SqL.of (sm4 _ _ hMc),aP (eA hx'),_,_,rfl,rfl,_,rfl,?_⟩
    have ed:=mX (ps:=zp zs) (show x < n by lia)
    refine ite2 (fun e=>?_) (fun e=>?_)
    ·exact ⟨_,rfl,kt _ _ ⟨_,rfl⟩ (Same.refl _) (decide_eq_true (by have:=of_decide_eq_true e; lia))⟩
    ·exact kf _ _ ⟨_,rfl⟩ (Same.refl _) (decide_eq_false (fun z=>e (decide_eq_true (by lia))))
   ·intro H4 sm4 hD4
    have e0 : ((((List.range (i + 1)).filter fun x=>decide (deg (dbl (zp zs)) (ci x) < 8)).map fun (x : Nat)=>V.int (0 + (x : Int)))) = NV ((List.range (i + 1)).filter fun x=>decide (deg (dbl (zp zs)) (ci x) < 8)):=List.map_congr_left fun x _=>by rw [Int.zero_add]
    rw [e0] at hD4
    obtain ⟨h0,hh0,dd0⟩:=Tr.free List.nodup_range (by rw [List.length_range]; lia)
    have tk : (List.range n).take (i + 1) = List.range (i + 1):=by rw [List.take_range,Nat.min_eq_left (by lia)]
    rw [tk] at hh0
    have ne : 0 < ((List.range (i + 1)).filter fun x=>decide (deg (dbl (zp zs)) (ci x) < 8)).length:=List.length_pos_of_mem (List.mem_filter.mpr ⟨hh0,decide_eq_true dd0⟩)
    have le : ((List.range (i + 1)).filter fun x=>decide (deg (dbl (zp zs)) (ci x) < 8)).length ≤ i + 1:=Nat.le_trans (List.length_filter_le _ _) (by rw [List.length_range]; exact Nat.le_refl _)
    generalize hfs : (List.range (i + 1)).filter (fun x=>decide (deg (dbl (zp zs)) (ci x) < 8)) = fs at *
    have hp4:=hpc.same sm4
    refine ⟨_,rfl,_,rfl,_,rfl,D1,_,rfl,.inl (SqL.of hD4),p,_,rfl,by rw [bD]; exact ne,by rw [bD]; lia,hp4,fun d H5 hd s5 hp5=>?_⟩
    rw [bD] at hd
    have nD1 : D1 ≠ p:=hpc.ne hD1
    have hv : fs[d]? = some fs[d]:=List.getElem?_eq_getElem hd
    refine ⟨D1,_,_,_,rfl,rfl,SqL.of (s5 _ _ hD4 nD1),aP (eA hd),?_⟩
    have hsm : fs.getD d 0∈fs:=by rw [List.getD_eq_getElem?_getD,hv]; exact List.getElem_mem _
    generalize fs.getD d 0 = sv at *
    rw [← hfs] at hsm
    obtain ⟨hs1,hs2⟩:=List.mem_filter.mp hsm
    have hsv : sv < i + 1:=List.mem_range.mp hs1
    have hsd : deg (dbl (zp zs)) (ci sv) < 8:=of_decide_eq_true hs2
    have nPp : Pr ≠ p:=hp.ne hPr
    have nMp : M ≠ p:=hp.ne hMH
    have hP5:=s5 _ _ (sm4 _ _ hPc) nPp
    have hM5:=s5 _ _ (sm4 _ _ hMc) nMp
    have po5 : PO H5 zs:=(po.same sm4).sameE s5 hp4
    refine ⟨_,rfl,.inl ⟨rfl,_,SqL.of hP5⟩,_,rfl,_,rfl,by show 2 ≤ sizeLine; decide,fun t ht=>?_⟩
    have st:=aF (o:=prT (ci sv,ci (i + 1))) ht
    refine ⟨Pr,_,_,rfl,rfl,st _ _ hP5,by rw [cF,hzl]; exact Nat.lt_of_lt_of_le (show i < 33 by lia) (by decide),?_⟩
    have hM6 : (upd (upd H5 t (prT (ci sv,ci (i + 1)))) Pr (.lst (zr zs ++ [.ref t]))) M = some (.lst (NV (degL n (zp zs)))):=by rw [aH nPM.symm]; exact st _ _ hM5
    have hsvn : sv < (degL n (zp zs)).length:=by rw [fV]; lia
    refine ⟨_,rfl,_,rfl,M,_,_,_,rfl,rfl,SqL.of hM6,aP (eA hsvn),_,_,rfl,rfl,_,rfl,_,rfl,M,_,(sv : Int),sv,rfl,rfl,hM6,eO (by rw [bD]; exact hsvn),?_⟩
    have e2 : (NV (degL n (zp zs))).set sv (V.int ((((degL n (zp zs)).getD sv 0 : Nat) : Int) + 1)) = NV ((degL n (zp zs)).set sv (deg (dbl (zp zs)) (ci sv) + 1)):=by
     rw [mX (by lia)]
     exact oK (x:=deg (dbl (zp zs)) (ci sv) + 1)
    have hkn : i + 1 < ((degL n (zp zs)).set sv (deg (dbl (zp zs)) (ci sv) + 1)).length:=by rw [List.length_set,fV]; lia
    have ek : ((degL n (zp zs)).set sv (deg (dbl (zp zs)) (ci sv) + 1)).getD (i + 1) 0 = deg (dbl (zp zs)) (ci (i + 1)):=by
     rw [List.getD_eq_getElem?_getD,List.getElem?_set_ne (by lia),← List.getD_eq_getElem?_getD,mX (by lia)]
    have hP6 : (upd (upd H5 t (prT (ci sv,ci (i + 1)))) Pr (.lst (zr zs ++ [.ref t]))) Pr = some (.lst (zr zs ++ [.ref t])):=aD
    have o6 : ∀ b,b ≠ Pr→(upd (upd H5 t (prT (ci sv,ci (i + 1)))) Pr (.lst (zr zs ++ [.ref t]))) b = (upd H5 t (prT (ci sv,ci (i + 1)))) b:=fun b n=>aH n
    have po6 : PO (upd (upd H5 t (prT (ci sv,ci (i + 1)))) Pr (.lst (zr zs ++ [.ref t]))) (zs ++ [(t,(ci sv,ci (i + 1)))]):=PO.putL (xs:=zr zs) ((po5.same st).append (PO.one aD)) (st _ _ hP5)
    generalize upd (upd H5 t (prT (ci sv,ci (i + 1)))) Pr _ = H6 at *
    generalize hH7 : upd H6 M _ = H7
    have gM7 : H7 M = some (.lst (NV ((degL n (zp zs)).set sv (deg (dbl (zp zs)) (ci sv) + 1)))):=by rw [← hH7,aD]; exact congrArg (fun l=>some (HO.lst l)) e2
    have o7 : ∀ b,b ≠ M→H7 b = H6 b:=fun b n=>by rw [← hH7,aH n]
    refine ⟨_,rfl,_,rfl,M,_,_,_,rfl,rfl,SqL.of gM7,aP (eA hkn),_,_,rfl,rfl,_,rfl,_,rfl,M,_,((i + 1 : Nat) : Int),i + 1,rfl,rfl,gM7,eO (by rw [bD]; exact hkn),?_⟩
    generalize hH8 : upd H7 M _ = H8
    have e3 : (NV ((degL n (zp zs)).set sv (deg (dbl (zp zs)) (ci sv) + 1))).set (i + 1) (V.int (((((degL n (zp zs)).set sv (deg (dbl (zp zs)) (ci sv) + 1)).getD (i + 1) 0 : Nat) : Int) + 1)) = NV (degL n (zp zs ++ [(ci sv,ci (i + 1))])):=by
     rw [ek,← aBS (by lia) (by lia) (by lia)]
     exact oK (x:=deg (dbl (zp zs)) (ci (i + 1)) + 1)
    have gM8 : H8 M = some (.lst (NV (degL n (zp zs ++ [(ci sv,ci (i + 1))])))):=by rw [← hH8,aD]; exact congrArg (fun l=>some (HO.lst l)) e3
    have o8 : ∀ b,b ≠ M→H8 b = H6 b:=fun b n=>by rw [← hH8,aH n]; exact o7 b n
    have ez : zp (zs ++ [(t,(ci sv,ci (i + 1)))]) = zp zs ++ [(ci sv,ci (i + 1))]:=by rw [dE]; rfl
    refine ⟨zs ++ [(t,(ci sv,ci (i + 1)))],⟨_,_,_,rfl⟩,fun b o e n=>?_,?_,?_,fun z hz=>?_,by rw [ez]; exact gM8,?_,fun u hu=>?_⟩
    ·rw [o8 _ (aJ e hMH),o6 _ (aJ e hPr)]
     exact st _ _ (s5 _ _ (sm4 _ _ (sc _ _ e n)) n)
    ·obtain ⟨x,y,e,r⟩:=hp5.same st
     exact ⟨x,y,by rw [o8 _ nMp.symm,o6 _ nPp.symm]; exact e,r⟩
    ·rw [o8 _ nPM,hP6,dD]; rfl
    ·have g:=po6 z hz
     rw [o8 _ (by rintro e; rw [e,hM6] at g; cases g)]
     exact g
    ·rw [ez,gK]
     exact Tr.add List.nodup_range (fun x hx=>List.mem_range.mp hx) (List.getElem?_range (by lia)) (by rw [tk]; exact hs1) hsd
    ·rw [ez] at hu
     rcases List.mem_append.mp hu with z | z
     ·exact inc u z
     ·rw [List.mem_singleton.mp z]; show ((sv : Nat) : Int) < ((i + 1 : Nat) : Int); lia
  ·rintro σ Hc ⟨zs,⟨a,b,c,rfl⟩,sc,hpc,hPc,po,hMc,Tr,inc⟩
   rw [show n - 1 + 1 = n by lia] at Tr
   exact ⟨_,rfl,q Pr zs Hc sc hpc hPr hPc po (Tr.fine n1 n2 (List.Perm.refl _)) inc⟩
end
end K12
namespace L2
open PySem PySem.Spec PyProof.Rows
def aD2 (K : PySem.W.Frag) : List V→Hp→VK→Prop:=fun xs H Q=>∃ (l : Addr) (ns : List Int),xs = [.ref l]∧SqL K H l (ns.map V.int)∧ns.length < 64∧∀ (D : Addr) (ns' : List Int),H D = none→ns'.Perm ns→ns'.Pairwise (· ≤ ·)→Q (.ref D) (upd H D (.lst (ns'.map V.int)))
theorem yV {X : Cx} : cI X (.builtin "sorted") (aD2 X.K):=by
 intro pins s σ H xs us Q I r h
 obtain ⟨l,ns,rfl,hl,h64,q⟩:=h
 obtain ⟨u1,rfl,r1⟩:=r.one
 obtain rfl : u1 = Value.ref l:=r1
 obtain ⟨its,rv,pl,_⟩:=I.list hl
 have ia:=xN rv
 refine sorted_ints pl.isList ia (by rw [ia.length]; exact h64) fun out ns' a1 a2 a3=>?_
 obtain ⟨⟨e,ho⟩,keep⟩:=vF (h:=s.heap) (vs:=its) (out:=out)
 have hnone : s.heap.get? (s.heap.objs.size + 1) = none:=Heap.get?_none_of_le (Nat.le_succ _)
 have eo : out = out.toList.toArray:=by simp
 refine ⟨.ref (s.heap.objs.size + 1),_,I.laidN (t':=s.toks) (o:=.lst (ns'.map V.int)) keep hnone ⟨?_,out.toList,e,kE a1,by rw [ho]⟩,rfl,q _ ns' (I.hok.freshN hnone) a2 a3⟩
 rw [List.length_map,a2.length_eq]
 exact Nat.le_trans (Nat.le_of_lt h64) (by decide)
theorem aBU {K : PySem.W.Frag} {a D : Addr} {xs : List V} {g : TG} {tt : TT} {te : TE} {fin : Hp→Prop} {σB : St} {H0 : Hp} (Pv : Nat→List V→St→Hp→Prop) (h0 : Pv 0 [] σB H0)
  (hl : ∀ i ys σ H,i ≤ xs.length→Pv i ys σ H→SqT K H a xs)
  (hs : ∀ i x ys σ H (Kt : V→St→Hp→Prop) (Kf : St→Hp→Prop),xs[i]? = some x→Pv i ys σ H →
   (∀ v σ2 H4,H4 D = some (.lst ys)→ys.length < sizeLine→Pv (i + 1) (ys ++ [v]) σ2 (upd H4 D (.lst (ys ++ [v])))→Kt v σ2 H4)→(∀ σ2 H3,Pv (i + 1) ys σ2 H3→Kf σ2 H3) →
   g x σ H fun σ2 H2=>tt σ2 H2 fun b H3=>if b = true then te σ2 H3 fun v H4=>Kt v σ2 H4 else Kf σ2 H3)
  (hd : ∀ ys σ H,Pv xs.length ys σ H→fin H) : dL (Itt K a) g tt te D fin σB H0:=by
 refine ⟨fun i m σ H=>m = xs.length - i∧i ≤ xs.length∧∃ ys,Pv i ys σ H,⟨xs.length,by simp,Nat.zero_le _,[],h0⟩,?_⟩
 rintro i m σ H ⟨rfl,hi,ys,p⟩
 have q:=hl i ys σ H hi p
 by_cases hlt : i < xs.length
 ·refine .inr ⟨⟨xs,xs[i],q,by simp [hlt]⟩,?_⟩
  rintro x H' ⟨rfl,y⟩
  exact hs i x ys σ _ (fun v σ2 H4=>∃ ys,H4 D = some (.lst ys)∧ys.length < sizeLine∧∃ m',m' < xs.length - i∧m' = xs.length - (i + 1)∧i + 1 ≤ xs.length∧∃ ys',Pv (i + 1) ys' σ2 (upd H4 D (.lst (ys ++ [v]))))
   (fun σ2 H3=>∃ m',m' < xs.length - i∧m' = xs.length - (i + 1)∧i + 1 ≤ xs.length∧∃ ys',Pv (i + 1) ys' σ2 H3) (y xs q) p
   (fun v σ2 H4 z1 z2 z3=>⟨ys,z1,z2,_,by lia,rfl,hlt,_,z3⟩) (fun σ2 H3 z=>⟨_,by lia,rfl,hlt,_,z⟩)
 ·have e : i = xs.length:=by lia
  subst e
  exact .inl ⟨⟨xs,q,Nat.le_refl _⟩,hd ys σ H p⟩
end L2
namespace K12
open PySem L2 NetM
abbrev yW : Stmt:=top 31
theorem pP : (["_law_house", "_law_pairs"] : List Str).Nodup:=by decide +kernel
theorem rF : (["_law_pair", "_law_house"] : List Str).Nodup:=by decide +kernel
theorem aDe {K : PySem.W.Frag} {a D : Addr} {zs : Zs} {g : TG} {tt : TT} {te : TE} {fin : Hp→Prop} {σB : St} {H0 : Hp} (c : Int × Int→Bool) (shape : St→Prop) (ha : H0 a = some (.lst (zr zs))) (hD : H0 D = none) (hn : zs.length ≤ 1000) (h0 : shape σB)
  (hs : ∀ z σ H (Kt : V→St→Hp→Prop) (Kf : St→Hp→Prop),z∈zs→shape σ→Same H0 H→(∀ σ2 H2,shape σ2→Same H H2→c z.2 = true→Kt (.ref z.1) σ2 H2)→(∀ σ2 H2,shape σ2→Same H H2→c z.2 = false→Kf σ2 H2) →
   g (.ref z.1) σ H fun σ2 H2=>tt σ2 H2 fun b H3=>if b = true then te σ2 H3 fun v H4=>Kt v σ2 H4 else Kf σ2 H3)
  (hd : ∀ H,Same H0 H→H D = some (.lst (zr (zs.filter fun z=>c z.2)))→fin H) : dL (Itl K a) g tt te D fin σB (upd H0 D (.lst [])):=by
 refine dC (xs:=zr zs) (fun i ys σ H=>shape σ∧Same H0 H∧H D = some (.lst ys)∧ys = zr ((zs.take i).filter fun z=>c z.2)) ⟨h0,aF hD,aD,rfl⟩ (fun i ys σ H _ z=>SqL.of (z.2.1 _ _ ha)) ?_ ?_
 ·rintro i x ys σ H Kt Kf hx ⟨sh,sm,hDl,rfl⟩ kt kf
  obtain ⟨z,hz,rfl⟩:=jC hx
  have hi : i < zs.length:=(List.getElem?_eq_some_iff.mp hz).1
  have tk : zs.take (i + 1) = zs.take i ++ [z]:=by rw [List.take_add_one,hz]; rfl
  refine hs z σ H Kt Kf (List.mem_of_getElem? hz) sh sm (fun σ2 H2 sh2 s2 e=>?_) (fun σ2 H2 sh2 s2 e=>?_)
  ·refine kt _ _ _ (s2 _ _ hDl) ?_ ⟨sh2,bV (sm.trans s2) hD,aD,?_⟩
   ·rw [cF]
    exact Nat.lt_of_le_of_lt (List.length_filter_le _ _) (Nat.lt_of_le_of_lt (List.length_take_le _ _) (Nat.lt_of_lt_of_le (show i < 1000 by lia) (by decide)))
   ·rw [tk,List.filter_append,dD]
    simp [List.filter_cons,e,zr]
  ·refine kf _ _ ⟨sh2,sm.trans s2,s2 _ _ hDl,?_⟩
   rw [tk,List.filter_append]
   simp [List.filter_cons,e]
 ·rintro ys σ H ⟨_,sm,hDl,rfl⟩
  rw [cF,List.take_length] at hDl
  exact hd H sm hDl
theorem aAV {zs : Zs} {c : Int × Int→Bool} : zp (zs.filter fun z=>c z.2) = (zp zs).filter c:=by
 unfold zp
 rw [List.filter_map]; rfl
theorem rG {zs : Zs} {c : Int × Int→Bool} : (zr (zs.filter fun z=>c z.2)).length = ((zp zs).filter c).length:=by rw [cF,← bJ,aAV]
theorem aDf {x : Int} {u : Int × Int} : inV (.int x) [.int u.1,.int u.2] = (decide (u.1 = x) || decide (u.2 = x)):=by
 unfold inV
 rw [Bool.eq_iff_iff]
 simp [eqV]
theorem aD3 {a b : Int} {ns : List Int} (pm : ns.Perm [a,b]) (so : ns.Pairwise (· ≤ ·)) : ∃ x y,ns = [x,y]∧x ≤ y∧(x = a∨x = b)∧(y = a∨y = b):=by
 have hl:=pm.length_eq
 match ns,hl with
 | [x,y],_ =>
  have hx : x∈[a,b]:=pm.mem_iff.mp (by simp)
  have hy : y∈[a,b]:=pm.mem_iff.mp (by simp)
  refine ⟨x,y,rfl,?_,by simpa using hx,by simpa using hy⟩
  exact (List.pairwise_cons.mp so).1 y (by simp)
section
variable {P : Program} {w : World} {K : PySem.W.Frag} {mg : Str→Option Value} {base : Heap}
theorem aCi {H : Hp} {zs : Zs} (po : PO H zs) : zs.length = (zp zs).length∧∀ i,i < (zp zs).length→SqT K H ((zs.map (·.1)).getD i 0) [.int ((zp zs).getD i (0,0)).1,.int ((zp zs).getD i (0,0)).2]:=by
 refine ⟨bJ.symm,fun i hi=>?_⟩
 rw [bJ] at hi
 rw [tS hi,wR hi]
 exact SqT.of (po _ (List.getElem_mem hi))
theorem jE : aZ ["_law_pot_here", "_law_n", "_law_pairs", "_law_k", "_law_one", "_law_other_here", "_law_full"] ["_law_pot_here", "_law_n"] (aM yW):=⟨rfl,rfl,rfl,by decide +kernel,rfl,by decide +kernel,by decide +kernel⟩
theorem aDg {f : Addr} {fd : FuncData} (F : Fun K "_law_mesh" "_law_mesh" yW f fd) (B : Bl mg) (D : Cal P w K mg base CX0 1 "_law_take" ["_law_pot_here", "_law_many"] cY) (TR : Cal P w K mg base CX0 2 "_law_tree" ["_law_pot_here", "_law_n"] iH) : FnOk P w K mg base CX0 3 f fd ["_law_pot_here", "_law_n"] iH:=by
 refine F.ok jE (fun vs H Q E h=>?_) (fun cdv A outer s H vs Q E hr h=>?_)
 ·obtain ⟨p,n,rfl,_⟩:=h
  rfl
 ·obtain ⟨p,n,rfl,n1,n2,hp,q⟩:=h
  have h1 : Room 1 _:=hr.mono (by decide)
  refine' ⟨_,(aE (aS (i:=2) jE.nd rfl (Or.inr rfl) (aO TR hr aR (aA (pv 0) (aA (pv 1) aB))))
   (aE (cA PassesOwn.never rfl (bH rfl B.range (aA (aO D h1 aR (aA (pv 0) (aA aI aB))) aB)) (aL (i:=3) jE.nd rfl (Or.inl rfl))
    (aE (cV (aN yV (by rfl) B.sorted PyProof.Rows.boot_sorted (aA (bW (aA (aO D h1 aR (aA (pv 0) (aA (pv 1) aB))) (aA (aO D h1 aR (aA (pv 0) (aA (pv 1) aB))) aB))) aB)) (aCO rfl (bF (aL (i:=4) jE.nd rfl (Or.inl rfl)) (bF (aL (i:=5) jE.nd rfl (Or.inl rfl)) cN))))
    (aE (aS (i:=6) jE.nd rfl (Or.inl rfl) (gR rJ (aN (qY rfl) (by rfl) B.max PyProof.Rows.boot_max (aA ?c1 aB)) aI (aV _)))
    (aG (bG (PW.pt (eT (aQ gE (pv 4) (pv 5) (aV _)) (eT (aQ (qW hr.u) (bA (aA (pv 4) (aA (pv 5) aB))) (pv 2) rfl) (eJ (eC (cU (pv 6))))))) (aG (cM (eK PySem.F.plainAttrs_list PySem.F.slot_list_append PySem.F.type_list_append dJ (pv 2) (aA (bA (aA (pv 4) (aA (pv 5) aB))) aB)))) aW)))))
   (aG (aU (pv 2))))),?_⟩
  case c1 =>
   refine' bZ (g:=(bL 0)) (te:=(tCB (fun xs H Q=>∃ p ys,xs = [V.ref p]∧(SqL K H p ys∨SqT K H p ys)∧Q (.int ys.length) H) (bE (xP [none,some 0] (aB4 K (tVar 1)) (bL 0) (gI (tOp (rIn K false) (tVar 1) (tVar 0))) (tVar 0)) tNil))) (NB:=["_law_house", "_law_pairs"]) (src:=[none,some 2]) (bR (by kernel_rfl)) rfl (nE (bA (aA (pv 4) (aA (pv 5) aB)))) ?g ?t ?e
   case g=>exact fun cl C s₃ H₃ fp=>(aL (i:=0) pP rfl (Or.inr rfl) (Or.inl rfl))
   case t=>exact fun cl C s₃ H₃ fp=>cE
   case e =>
    intro cl C s₃ H₃ fp
    refine' (aN aT (by rfl) B.len PySem.boot_len (aA ?c2 aB))
    case c2 =>
     refine' bZ (g:=(bL 0)) (tt:=(gI (tOp (rIn K false) (tVar 1) (tVar 0)))) (te:=(tVar 0)) (NB:=["_law_pair", "_law_house"]) (src:=[none,some 0]) (bR (by kernel_rfl)) rfl (cC (pv 1)) ?g ?t ?e
     case g=>exact fun cl C s₃ H₃ fp=>(aL (i:=0) rF rfl (Or.inl rfl) (Or.inr rfl))
     case t=>exact fun cl C s₃ H₃ fp=>eN (aQ kB (pv 1) (pv 0) rfl)
     case e=>exact fun cl C s₃ H₃ fp=>(pv 0)
  refine ⟨_,rfl,_,rfl,p,n,rfl,n1,n2,hp,fun Pr zs0 H1 s1 hp1 hPr hP1 po1 F1 inc1=>?_⟩
  have nPp : Pr ≠ p:=hp.ne hPr
  refine ⟨_,rfl,p,10,rfl,by decide,by decide,hp1,fun d H2 hd s2 hp2=>⟨(d : Int),rfl,by lia,by lia,bY (n:=d) (lo:=0) (fun i σ Hc=>∃ zs : Zs,(∃ a b c e,σ = [some (.ref p),some (.int n),some (.ref Pr),a,b,c,e])∧aK p H Hc∧bC Hc p∧Hc Pr = some (.lst (zr zs))∧PO Hc zs∧Fine n (dbl (zp zs))∧∀ u∈zp zs,u.1 < u.2) ⟨zs0,⟨_,_,_,_,rfl⟩,s1.trans s2,hp2,s2 _ _ hP1 nPp,po1.sameE s2 hp1,F1,inc1⟩ ?_ ?_⟩⟩
  ·rintro i σ Hc hi ⟨zs,⟨x3,x4,x5,x6,rfl⟩,sc,hpc,hPc,po,Fi,inc⟩
   refine ⟨_,rfl,_,rfl,p,n,rfl,by lia,by lia,hpc,fun d1 H3 h3 s3 hp3=>⟨_,rfl,_,rfl,p,n,rfl,by lia,by lia,hp3,fun d2 H4 h4 s4 hp4=>⟨by show 2 ≤ sizeLine; decide,fun L hL=>⟨L,[(d1 : Int),(d2 : Int)],rfl,SqL.of aD,by show 2 < 64; decide,fun S ns' hS pm so=>?_⟩⟩⟩⟩
   obtain ⟨x,y,rfl,xy,hx,hy⟩:=aD3 pm so
   obtain ⟨a,b,rfl,rfl,han,hbn⟩ : ∃ a b : Nat,x = (a : Int)∧y = (b : Int)∧a < n∧b < n:=⟨x.toNat,y.toNat,by lia,by lia,by lia,by lia⟩
   have sL:=aF (o:=.lst [.int (d1 : Int),.int (d2 : Int)]) hL
   have sS:=aF (o:=.lst ([(a : Int),(b : Int)].map V.int)) hS
   refine ⟨S,_,_,rfl,SqL.of aD,_,_,rfl,_,_,rfl,rfl,?_⟩
   have s5 : aK p H _:=((sc.trans s3).trans s4).trans (aK.of (sL.trans sS))
   have hp5:=hp4.same (sL.trans sS)
   have hP5:=sS _ _ (sL _ _ (s4 _ _ (s3 _ _ hPc nPp) nPp))
   have po5:=((po.sameE s3 hpc).sameE s4 hp3).same (sL.trans sS)
   generalize upd (upd H4 L _) S _ = H5 at *
   have hzl : zs.length ≤ 256:=by have:=Fi.len; rw [fA,bJ] at this; lia
   refine ⟨_,rfl,_,rfl,by show 2 ≤ sizeLine; decide,fun T hT=>⟨T,rfl,⟨_,SqT.of aD⟩,fun D1 hD1=>?_⟩⟩
   have sT:=aF (o:=.tup [.int (a : Int),.int (b : Int)]) hT
   have gT : (upd H5 T (.tup [.int (a : Int),.int (b : Int)])) T = some (.tup [.int (a : Int),.int (b : Int)]):=aD
   have hP6:=sT _ _ hP5
   have po6:=po5.same sT
   have s6 : aK p H _:=s5.trans (aK.of sT)
   have hp6:=hp5.same sT
   generalize upd H5 T _ = H6 at *
   refine aBU (xs:=[.int (a : Int),.int (b : Int)]) (fun i ys σ H7=>(∃ x,σ = [x,some (.ref Pr)])∧Same H6 H7∧H7 D1 = some (.lst ys)∧ys = (([a,b].take i).map fun (h : Nat)=>((deg (dbl (zp zs)) (ci h) : Nat) : Int)).map V.int) ⟨⟨_,rfl⟩,aF hD1,aD,rfl⟩ (fun i ys σ H7 _ z=>SqT.of (z.2.1 _ _ gT)) ?_ ?_
   ·rintro j v ys σ H7 Kt Kf hv ⟨⟨x',rfl⟩,sm7,hD7,rfl⟩ kt kf
    obtain ⟨h,hh,rfl⟩ : ∃ h : Nat,[a,b][j]? = some h∧v = .int (h : Int):=by
     match j,hv with
     | 0,hv=>exact ⟨a,rfl,by simpa using hv.symm⟩
     | 1,hv=>exact ⟨b,rfl,by simpa using hv.symm⟩
    have hj : j < 2:=(List.getElem?_eq_some_iff.mp hh).1
    have hP7:=sm7 _ _ hP6
    refine ⟨_,rfl,Pr,rfl,⟨_,SqL.of hP7⟩,fun D2 hD2=>?_⟩
    refine aDe (fun u=>decide (u.1 = ci h) || decide (u.2 = ci h)) (fun σ=>∃ a,σ = [a,some (.int (h : Int))]) hP7 hD2 (by lia) ⟨_,rfl⟩ ?_ ?_
    ·rintro z σ H8 Kt' Kf' hz ⟨a',rfl⟩ sm8 kt' kf'
     have hz8:=sm8 _ _ ((po6.same sm7) z hz)
     refine ⟨_,rfl,_,rfl,z.1,_,rfl,.inr (SqT.of hz8),rfl,rfl,_,rfl,?_⟩
     have e:=aDf (x:=ci h) (u:=z.2)
     refine ite2 (fun c=>?_) (fun c=>?_)
     ·exact ⟨_,rfl,kt' _ _ ⟨_,rfl⟩ (Same.refl _) (e ▸ c)⟩
     ·exact kf' _ _ ⟨_,rfl⟩ (Same.refl _) (by rw [← e]; simpa using c)
    ·intro H8 sm8 hD8
     have eL : (zr (zs.filter fun z=>decide (z.2.1 = ci h) || decide (z.2.2 = ci h))).length = ((zp zs).filter fun u=>decide (u.1 = ci h) || decide (u.2 = ci h)).length:=rG (c:=fun u=>decide (u.1 = ci h) || decide (u.2 = ci h))
     have eD:=qZ (ps:=zp zs) (h:=ci h) fun u hu=>by have:=inc u hu; lia
     refine ⟨D2,_,rfl,.inl (SqL.of hD8),kt _ _ _ (sm8 _ _ hD7) ?_ ⟨⟨_,rfl⟩,bV (sm7.trans sm8) hD1,aD,?_⟩⟩
     ·rw [List.length_map,List.length_map]
      exact Nat.lt_of_le_of_lt (List.length_take_le _ _) (Nat.lt_of_lt_of_le (show j < 3 by lia) (by decide))
     ·rw [List.take_add_one,hh,Option.toList_some,List.map_append,List.map_append,eL,eD]; rfl
   ·rintro ys σ H7 ⟨_,sm7,hD7,rfl⟩
    have hD7' : H7 D1 = some (.lst ([((deg (dbl (zp zs)) (ci a) : Nat) : Int),((deg (dbl (zp zs)) (ci b) : Nat) : Int)].map V.int)):=hD7
    refine ⟨D1,_,rfl,SqL.of hD7',by simp,fun M hM hall=>⟨_,_,rfl,rfl,?_⟩⟩
    have s7 : aK p H H7:=s6.trans (aK.of sm7)
    have hp7:=hp6.same sm7
    have hP7:=sm7 _ _ hP6
    have po7:=po6.same sm7
    have da:=hall _ (by simp : ((deg (dbl (zp zs)) (ci a) : Nat) : Int)∈_)
    have db:=hall ((deg (dbl (zp zs)) (ci b) : Nat) : Int) (by simp)
    refine ⟨_,rfl,_,rfl,rfl,_,rfl,?_⟩
    by_cases hab : a = b
    ·refine iL (by subst hab; simp) (iteF ?_)
     exact ⟨zs,⟨_,_,_,_,rfl⟩,s7,hp7,hP7,po7,Fi,inc⟩
    refine fN (by simp; lia) ⟨_,rfl,_,rfl,by show 2 ≤ sizeLine; decide,fun t ht=>?_⟩
    have st:=aF (o:=prT ((a : Int),(b : Int))) ht
    have hP8:=st _ _ hP7
    have po8:=po7.same st
    obtain ⟨l1,l2⟩:=aCi (K:=K) po8
    refine ⟨_,rfl,t,Pr,((a : Int),(b : Int)),zs.map (fun z : Addr × Int × Int=>z.1),zp zs,rfl,rfl,SqT.of aD,by rw [← jB]; exact SqL.of hP8,by rw [List.length_map]; exact l1,l2,_,rfl,?_⟩
    have s8 : aK p H _:=s7.trans (aK.of st)
    have hp8:=hp7.same st
    generalize upd H7 t _ = H8 at *
    by_cases hin : ((a : Int),(b : Int))∈zp zs
    ·refine iL (by simp [hin]) (iteF ?_)
     exact ⟨zs,⟨_,_,_,_,rfl⟩,s8,hp8,hP8,po8,Fi,inc⟩
    refine fN (by simp [hin]) ⟨_,rfl,_,rfl,?_⟩
    by_cases hfull : (7 : Int) < M
    ·refine iL (by simp [hfull]) ?_
     exact ⟨zs,⟨_,_,_,_,rfl⟩,s8,hp8,hP8,po8,Fi,inc⟩
    ·refine fN (by simp [hfull]) ?_
     refine ⟨_,rfl,.inl ⟨rfl,_,SqL.of hP8⟩,_,rfl,_,rfl,by show 2 ≤ sizeLine; decide,fun t2 ht2=>?_⟩
     have st2:=aF (o:=prT ((a : Int),(b : Int))) ht2
     refine ⟨Pr,_,_,rfl,rfl,st2 _ _ hP8,by rw [cF]; exact Nat.lt_of_le_of_lt hzl (by decide),zs ++ [(t2,((a : Int),(b : Int)))],⟨_,_,_,_,rfl⟩,fun c o e m=>?_,?_,?_,?_,?_,?_⟩
     ·rw [aH (aJ e hPr)]; exact st2 _ _ (s8 _ _ e m)
     ·exact (hp8.same st2).put nPp.symm
     ·rw [aD,dD]; rfl
     ·exact PO.putL (xs:=zr zs) ((po8.same st2).append (PO.one aD)) (st2 _ _ hP8)
     ·rw [dE]
      refine Fi.pair han hbn hab hin (fun z=>?_) (by lia) (by lia)
      have:=inc _ z
      simp at this
      lia
     ·intro u hu
      rw [dE] at hu
      rcases List.mem_append.mp hu with z | z
      ·exact inc u z
      ·rw [List.mem_singleton.mp z]; show (a : Int) < (b : Int); lia
  ·rintro σ Hc ⟨zs,⟨x3,x4,x5,x6,rfl⟩,sc,hpc,hPc,po,Fi,inc⟩
   exact ⟨_,rfl,q Pr zs Hc sc hpc hPr hPc po Fi inc⟩
end
end K12
namespace NetM
def bxp (m : Nat) (ns : List Nat) (i : Nat) : List (Nat × Nat):=(List.range i).flatMap fun j=>bxr m (pr (ns.take j)) (ns.getD j 0)
theorem eX {α : Type} {f : Nat→List α} {n : Nat} : (List.range (n + 1)).flatMap f = (List.range n).flatMap f ++ f n:=by
 rw [List.range_succ,List.flatMap_append]; simp
theorem pQ : ∀ {ns : List Nat} {x : Nat},pr (ns ++ [x]) = pr ns * x
 | [],x=>by show x * 1 = 1 * x; lia
 | n :: ns,x=>by show n * pr (ns ++ [x]) = n * pr ns * x; rw [pQ,Nat.mul_assoc]
theorem aAW {m : Nat} : ∀ {ns : List Nat} {st : Nat},bx m st ns = (List.range ns.length).flatMap fun j=>bxr m (st * pr (ns.take j)) (ns.getD j 0)
 | [],st=>rfl
 | n :: ns,st=>by
  show bxr m st n ++ bx m (st * n) ns = _
  rw [List.length_cons,List.range_succ_eq_map,List.flatMap_cons,aAW (ns:=ns)]
  congr 1
  ·show bxr m st n = bxr m (st * 1) n
   rw [Nat.mul_one]
  ·rw [List.flatMap_map]
   congr 1
   funext j
   show _ = bxr m (st * (n * pr (ns.take j))) (ns.getD j 0)
   rw [Nat.mul_assoc]
theorem fZ {α : Type} {g : Nat→List α} {M : Nat} (hg : ∀ x,(g x).length ≤ M) : ∀ {m : Nat},((List.range m).flatMap g).length ≤ m * M
 | 0=>Nat.zero_le _
 | m + 1=>by rw [eX,List.length_append,Nat.succ_mul]; have:=hg m; have:=fZ hg (m:=m); lia
theorem wV {m st n : Nat} : (bxr m st n).length ≤ m:=by unfold bxr; rw [List.length_map]; exact Nat.le_trans (List.length_filter_le _ _) (by simp)
def wrow (b at_ h : Nat) : List (Nat × Nat):=(List.range (b - h / b ^ at_ % b - 1)).map fun k=>(h,h + (k + 1) * b ^ at_)
theorem mY {b at_ h : Nat} (hb : b ≤ 5) : (wrow b at_ h).length ≤ 5:=by unfold wrow; rw [List.length_map,List.length_range]; lia
end NetM
namespace K12
open PySem L2 NetM
abbrev sBox : Stmt:=top 32
abbrev uD : Stmt:=top 33
def yX (ns : List Nat) : Prop:=1 ≤ ns.length∧ns.length ≤ 5∧(∀ x∈ns,2 ≤ x∧x ≤ 8)∧pr ns ≤ 32
theorem jO : (["_law_house", "_law_stride", "_law_side"] : List Str).Nodup:=by decide +kernel
theorem jP : (["_law_more", "_law_house", "_law_stride"] : List Str).Nodup:=by decide +kernel
theorem gN : ∀ {ns : List Nat} {i : Nat},(∀ x∈ns,1 ≤ x)→pr (ns.take i) ≤ pr ns
 | [],i,_=>by rw [List.take_nil]; exact Nat.le_refl _
 | n :: ns,0,h=>by
  show 1 ≤ n * pr ns
  have : ∀ {l : List Nat},(∀ x∈l,1 ≤ x)→1 ≤ pr l:=fun {l}=>by
   induction l with
   | nil=>intro _; exact Nat.le_refl _
   | cons x l ih=>intro hl; exact Nat.mul_pos (hl x List.mem_cons_self) (ih fun y hy=>hl y (List.mem_cons_of_mem _ hy))
  exact this (l:=n :: ns) h
 | n :: ns,i + 1,h=>by
  show n * pr (ns.take i) ≤ n * pr ns
  exact Nat.mul_le_mul_left n (gN fun x hx=>h x (List.mem_cons_of_mem _ hx))
theorem aAX {lo : Int} {n : Nat} {D : Addr} {g : TG} {tt : TT} {te : TE} {fin : Hp→Prop} {σB : St} {H0 : Hp} (c : Nat→Bool) (F : Nat→Int × Int) (shape : St→Prop) (hD : H0 D = none) (hn : n ≤ 1000) (h0 : shape σB)
  (hs : ∀ i σ H (R : V→St→Hp→Prop) (Kf : St→Hp→Prop),i < n→shape σ→Same H0 H→(∀ σ2 p,shape σ2→H p = none→c i = true→R (.ref p) σ2 (upd H p (prT (F i))))→(∀ σ2,shape σ2→c i = false→Kf σ2 H)→g (.int (lo + i)) σ H fun σ2 H2=>tt σ2 H2 fun b H3=>if b = true then te σ2 H3 fun v H4=>R v σ2 H4 else Kf σ2 H3)
  (hd : ∀ zs H,Same H0 H→H D = some (.lst (zr zs))→PO H zs→zp zs = ((List.range n).filter c).map F→fin H) : dL (Itr lo n) g tt te D fin σB (upd H0 D (.lst [])):=by
 refine dO (fun i ys σ H=>shape σ∧Same H0 H∧H D = some (.lst ys)∧∃ zs : Zs,ys = zr zs∧PO H zs∧zp zs = ((List.range i).filter c).map F) ⟨h0,aF hD,aD,[],rfl,PO.nil,rfl⟩ ?_ ?_
 ·rintro i ys σ H Kt Kf hi ⟨sh,sm,hDl,zs,rfl,po,ep⟩ kt kf
  have hl : zs.length ≤ i:=by
   rw [← bJ,ep,List.length_map]
   exact Nat.le_trans (List.length_filter_le _ _) (by rw [List.length_range]; exact Nat.le_refl _)
  refine hs i σ H Kt Kf hi sh sm (fun σ2 p sh2 hp e=>?_) (fun σ2 sh2 e=>?_)
  ·have nD : D ≠ p:=aJ hDl hp
   refine kt _ _ _ (by rw [aH nD]; exact hDl) (by rw [cF]; exact Nat.lt_of_le_of_lt (show zs.length ≤ 1000 by lia) (by decide)) ⟨sh2,bV (sm.trans (aF hp)) hD,aD,zs ++ [(p,F i)],?_,?_,?_⟩
   ·rw [dD]; rfl
   ·refine PO.putL (xs:=zr zs) ?_ (by rw [aH nD]; exact hDl)
    exact (po.putN hp).append (PO.one aD)
   ·rw [dE,ep,List.range_succ,List.filter_append,List.map_append]
    simp [List.filter_cons,e,zp]
  ·refine kf _ _ ⟨sh2,sm,hDl,zs,rfl,po,?_⟩
   rw [ep,List.range_succ,List.filter_append]
   simp [List.filter_cons,e]
 ·rintro ys σ H ⟨_,sm,hDl,zs,rfl,po,ep⟩
  exact hd zs H sm hDl po ep
theorem iM.ext {H H2 H3 : Hp} {D : Addr} {ts us : Ts} {zs2 zs : Zs} (hD : H D = none) (sm : Same H H2) (h1 : H2 D = some (.lst (zr zs2))) (po2 : PO H2 zs2) (ez : zp zs2 = ts) (s3 : Same H2 H3) (po : PO H3 zs) (e : zp zs = us) : iM H D (ts ++ us) (upd H3 D (.lst (zr zs2 ++ zr zs))) :=
 ⟨bV (sm.trans s3) hD,zs2 ++ zs,by rw [aD,dD],PO.putL (xs:=zr zs2) ((po2.same s3).append po) (s3 _ _ h1),by rw [dE,ez,e]⟩
section
variable {P : Program} {w : World} {K : PySem.W.Frag} {mg : Str→Option Value} {base : Heap}
theorem iN : aZ ["_law_sides", "_law_many", "_law_side", "_law_pairs", "_law_stride"] ["_law_sides"] (aM sBox):=⟨rfl,rfl,rfl,by decide +kernel,rfl,by decide +kernel,by decide +kernel⟩
def aCj (H : Hp) (m : Nat) (ts : Ts) (Q : V→Hp→Prop) : Prop:=∀ (t r : Addr) (zs : Zs) (H' : Hp),Same H H'→H t = none→H r = none→H' t = some (.tup [.int m,.ref r])→H' r = some (.lst (zr zs))→PO H' zs→zp zs = ts→Q (.ref t) H'
def yY : Sp:=fun vs H Q _=>∃ (a : Addr) (ns : List Nat),vs = [.ref a]∧H a = some (.tup (NV ns))∧yX ns∧aCj H (pr ns) ((boxQ ns).map ci2) Q
theorem aD4 {f : Addr} {fd : FuncData} (F : Fun K "_law_box" "_law_box" sBox f fd) (B : Bl mg) : FnOk P w K mg base CX0 1 f fd ["_law_sides"] yY:=by
 refine F.ok iN (fun vs H Q E h=>?_) (fun cdv A outer s H vs Q E hr h=>?_)
 ·obtain ⟨a,ns,rfl,_⟩:=h
  rfl
 ·obtain ⟨a,ns,rfl,ha,⟨hl0,hl,hn,hm⟩,k⟩:=h
  refine' ⟨_,(aE (aS (i:=1) iN.nd rfl (Or.inl rfl) aI)
   (aE (cA PassesOwn.never rfl (nE (pv 0)) (aL (i:=2) iN.nd rfl (Or.inr rfl))
    (aG (aS (i:=1) iN.nd rfl (Or.inl rfl) (aY fE (pv 1) (pv 2)))))
   (aE (aS (i:=3) iN.nd rfl (Or.inl rfl) (bW aB))
   (aE (aS (i:=4) iN.nd rfl (Or.inr rfl) aI)
   (aE (cA PassesOwn.never rfl (nE (pv 0)) (aL (i:=2) iN.nd rfl (Or.inr rfl))
    (aE (cM (eK PySem.F.plainAttrs_list PySem.F.slot_list_extend PySem.F.type_list_extend kD (pv 3) (aA ?c1 aB)))
    (aG (aS (i:=4) iN.nd rfl (Or.inr rfl) (aY fE (pv 4) (pv 2))))))
   (aG (aU (bA (aA (pv 1) (aA (pv 3) aB)))))))))),?_⟩
  case c1 =>
   refine' bZ (g:=(bL 0)) (tt:=(gI (tOp (rI0 fun i j=>.bl (decide (i < j))) (tOp (rI (fun _ j=>0 < j) fun i j=>.int (i % j)) (tOp (rI CDiv fun i j=>.int (i / j)) (tVar 0) (tVar 1)) (tVar 2)) (tOp (rI0 fun i j=>.int (i - j)) (tVar 2) (tC (.int 1)))))) (te:=(tTup (bE (tVar 0) (bE (tOp (rI0 fun i j=>.int (i + j)) (tVar 0) (tVar 1)) tNil)))) (NB:=["_law_house", "_law_stride", "_law_side"]) (src:=[none,some 4,some 2]) (bR (by kernel_rfl)) rfl (bH rfl B.range (aA (pv 1) aB)) ?g ?t ?e
   case g=>exact fun cl C s₃ H₃ fp=>(aL (i:=0) jO rfl (Or.inl rfl) (Or.inr rfl))
   case t=>exact fun cl C s₃ H₃ fp=>eN (aQ gG (aY eE (aY pA (pv 0) (pv 1)) (pv 2)) (aY iU (pv 2) aI) (aV _))
   case e=>exact fun cl C s₃ H₃ fp=>(bA (aA (pv 0) (aA (aY cJ (pv 0) (pv 1)) aB)))
  have hn1 : ∀ x∈ns,1 ≤ x:=fun x hx=>by have:=hn x hx; lia
  refine ⟨_,rfl,a,rfl,⟨_,SqT.of ha⟩,oZ (K:=K) (xs:=NV ns) (fun i σ H2=>H2 = H∧∃ x2,σ = [some (.ref a),some (.int ((pr (ns.take i) : Nat) : Int)),x2,none,none]) ⟨rfl,_,rfl⟩ (fun i σ H2 _ z=>by rw [z.1]; exact SqT.of ha) ?_ ?_⟩
  ·rintro i x σ H2 hx ⟨rfl,x2,rfl⟩
   obtain ⟨n,hv,rfl⟩:=yN hx
   have hnn:=hn n (List.mem_of_getElem? hv)
   have hst:=gN (ns:=ns) (i:=i) hn1
   have tk : ns.take (i + 1) = ns.take i ++ [n]:=by rw [List.take_add_one,hv]; rfl
   rw [tk,pQ]
   exact ⟨_,rfl,_,rfl,_,_,rfl,rfl,.inr ⟨by lia,by lia⟩,rfl,_,rfl⟩
  rintro σ H2 ⟨rfl,x2,rfl⟩
  rw [bD,List.take_length]
  refine ⟨by show 0 ≤ sizeLine; decide,fun D hD=>?_⟩
  have s0:=aF (o:=.lst []) hD
  refine ⟨_,rfl,a,rfl,⟨_,SqT.of (s0 _ _ ha)⟩,oZ (K:=K) (xs:=NV ns) (fun i σ Hc=>(∃ x2,σ = [some (.ref a),some (.int ((pr ns : Nat) : Int)),x2,some (.ref D),some (.int ((pr (ns.take i) : Nat) : Int))])∧iM H2 D ((bxp (pr ns) ns i).map ci2) Hc) ⟨⟨_,rfl⟩,s0,[],aD,PO.nil,rfl⟩ (fun i σ Hc _ z=>SqT.of (z.2.1 _ _ ha)) ?_ ?_⟩
  ·rintro i x σ Hc hx ⟨⟨x3,rfl⟩,sm,zs2,hD2,po2,ez2⟩
   obtain ⟨n,hv,rfl⟩:=yN hx
   have hi : i < ns.length:=(List.getElem?_eq_some_iff.mp hv).1
   have hnn:=hn n (List.mem_of_getElem? hv)
   have hst:=gN (ns:=ns) (i:=i) hn1
   have hst0 : 1 ≤ pr (ns.take i):=gN (ns:=ns.take i) (i:=0) fun x hx=>hn1 x (List.mem_of_mem_take hx)
   have gd : ns.getD i 0 = n:=by rw [List.getD_eq_getElem?_getD,hv]; rfl
   have tk : ns.take (i + 1) = ns.take i ++ [n]:=by rw [List.take_add_one,hv]; rfl
   rw [tk,pQ]
   have eB : bxp (pr ns) ns (i + 1) = bxp (pr ns) ns i ++ bxr (pr ns) (pr (ns.take i)) n:=by unfold bxp; rw [eX,gd]
   have zl : zs2.length ≤ 160:=by
    rw [← bJ,ez2,List.length_map]
    exact Nat.le_trans (fZ (M:=32) fun j=>Nat.le_trans wV hm) (by lia)
   rw [eB,List.map_append]
   generalize pr (ns.take i) = st at *
   refine ⟨_,rfl,.inl ⟨rfl,_,SqL.of hD2⟩,_,rfl,((pr ns : Nat) : Int),rfl,by lia,by lia,fun L hL=>?_⟩
   refine aAX (lo:=0) (n:=pr ns) (fun h=>decide (h / st % n + 1 < n)) (fun h=>ci2 (h,h + st)) (fun σ=>∃ x,σ = [x,some (.int (st : Int)),some (.int (n : Int))]) hL (by lia) ⟨_,rfl⟩ ?_ ?_
   ·rintro j σ H4 R Kf hj ⟨x,rfl⟩ sm4 kt kf
    have hdv : ((0 : Int) + (j : Int)) / (st : Int) % (n : Int) = (((j / st % n : Nat)) : Int):=by rw [Int.zero_add]; rfl
    refine ⟨_,rfl,_,rfl,_,_,rfl,rfl,⟨by lia,by lia⟩,_,rfl,_,_,rfl,rfl,(by show (0 : Int) < (n : Int); lia),_,rfl,_,_,rfl,rfl,_,_,rfl,rfl,_,rfl,?_⟩
    rw [hdv]
    refine ite2 (fun c=>?_) (fun c=>?_)
    ·have c:=of_decide_eq_true c
     refine ⟨_,rfl,_,rfl,_,rfl,_,_,rfl,rfl,by show 2 ≤ sizeLine; decide,fun t ht=>?_⟩
     rw [Int.zero_add]
     exact kt _ _ ⟨_,rfl⟩ ht (decide_eq_true (by lia))
    ·exact kf _ ⟨_,rfl⟩ (decide_eq_false fun z=>c (decide_eq_true (by lia)))
   ·intro zs H4 s4 hL4 po4 ez4
    have e4 : zp zs = (bxr (pr ns) st n).map ci2:=by rw [ez4]; unfold bxr; rw [List.map_map]; rfl
    have l4 : zs.length ≤ 32:=by rw [← bJ,e4,List.length_map]; exact Nat.le_trans wV hm
    refine ⟨D,L,_,_,rfl,rfl,s4 _ _ hD2,hL4,by rw [cF,cF]; exact Nat.le_trans (show _ ≤ 192 by lia) (by decide),?_⟩
    exact ⟨_,rfl,_,rfl,_,_,rfl,rfl,.inr ⟨by lia,by lia⟩,⟨_,rfl⟩,iM.ext hD sm hD2 po2 ez2 s4 po4 e4⟩
  ·rintro σ Hc ⟨⟨x3,rfl⟩,sm,zs2,hD2,po2,ez2⟩
   refine ⟨_,rfl,_,rfl,by show 2 ≤ sizeLine; decide,fun t ht=>?_⟩
   have st:=aF (o:=.tup [.int ((pr ns : Nat) : Int),.ref D]) ht
   refine k t D zs2 _ (sm.trans st) (sm.free ht) hD aD (st _ _ hD2) (po2.same st) ?_
   rw [ez2,bD]
   unfold boxQ bxp
   rw [aAW]
   simp only [Nat.one_mul]
theorem dX : aZ ["_law_figures", "_law_base", "_law_many", "_law_k", "_law_pairs", "_law_stride", "_law_house", "_law_figure"] ["_law_figures", "_law_base"] (aM uD):=⟨rfl,rfl,rfl,by decide +kernel,rfl,by decide +kernel,by decide +kernel⟩
def pR : Sp:=fun vs H Q _=>∃ f b : Nat,vs = [.int f,.int b]∧1 ≤ f∧f ≤ 5∧2 ≤ b∧b ≤ 5∧b ^ f ≤ 32∧aCj H (b ^ f) ((kR f b).map ci2) Q
theorem aBV {f : Addr} {fd : FuncData} (F : Fun K "_law_words" "_law_words" uD f fd) (B : Bl mg) : FnOk P w K mg base CX0 1 f fd ["_law_figures", "_law_base"] pR:=by
 refine F.ok dX (fun vs H Q E h=>?_) (fun cdv A outer s H vs Q E hr h=>?_)
 ·obtain ⟨f,b,rfl,_⟩:=h
  rfl
 ·obtain ⟨f,b,rfl,f1,f2,b1,b2,hm,k⟩:=h
  refine' ⟨_,(aE (aS (i:=2) dX.nd rfl (Or.inl rfl) aI)
   (aE (cA PassesOwn.never rfl (bH rfl B.range (aA (pv 0) aB)) (aL (i:=3) dX.nd rfl (Or.inl rfl))
    (aG (aS (i:=2) dX.nd rfl (Or.inl rfl) (aY fE (pv 2) (pv 1)))))
   (aE (aS (i:=4) dX.nd rfl (Or.inl rfl) (bW aB))
   (aE (aS (i:=5) dX.nd rfl (Or.inr rfl) aI)
   (aE (cA PassesOwn.never rfl (bH rfl B.range (aA (pv 0) aB)) (aL (i:=3) dX.nd rfl (Or.inl rfl))
    (aE (cA PassesOwn.never rfl (bH rfl B.range (aA (pv 2) aB)) (aL (i:=6) dX.nd rfl (Or.inr rfl))
     (aE (aS (i:=7) dX.nd rfl (Or.inl rfl) (aY eE (aY pA (pv 6) (pv 5)) (pv 1)))
     (aG (cM (eK PySem.F.plainAttrs_list PySem.F.slot_list_extend PySem.F.type_list_extend kD (pv 4) (aA ?c1 aB))))))
    (aG (aS (i:=5) dX.nd rfl (Or.inr rfl) (aY fE (pv 5) (pv 1))))))
   (aG (aU (bA (aA (pv 2) (aA (pv 4) aB)))))))))),?_⟩
  case c1 =>
   refine' bZ (g:=(bL 0)) (te:=(tTup (bE (tVar 1) (bE (tOp (rI0 fun i j=>.int (i + j)) (tVar 1) (tOp (rI CMul fun i j=>.int (i * j)) (tVar 0) (tVar 2))) tNil)))) (NB:=["_law_more", "_law_house", "_law_stride"]) (src:=[none,some 6,some 5]) (bR (by kernel_rfl)) rfl (jX rfl B.range (aA aI (aA (aY iU (pv 1) (pv 7)) aB))) ?g ?t ?e
   case g=>exact fun cl C s₃ H₃ fp=>(aL (i:=0) jP rfl (Or.inl rfl) (Or.inr rfl))
   case t=>exact fun cl C s₃ H₃ fp=>cE
   case e=>exact fun cl C s₃ H₃ fp=>(bA (aA (pv 1) (aA (aY cJ (pv 1) (aY fE (pv 0) (pv 2))) aB)))
  have hpw : ∀ i,i ≤ f→b ^ i ≤ 32:=fun i hi=>Nat.le_trans (Nat.pow_le_pow_right (by lia) hi) hm
  refine ⟨_,rfl,(f : Int),rfl,by lia,by lia,bY (n:=f) (lo:=0) (fun i σ H2=>H2 = H∧∃ x3,σ = [some (.int f),some (.int b),some (.int ((b ^ i : Nat) : Int)),x3,none,none,none,none]) ⟨rfl,_,rfl⟩ ?_ ?_⟩
  ·rintro i σ H2 hi ⟨rfl,x3,rfl⟩
   have hbi:=hpw i (by lia)
   refine ⟨_,rfl,_,rfl,_,_,rfl,rfl,.inr ⟨by lia,by lia⟩,rfl,some (.int (0 + (i : Int))),?_⟩
   rw [Nat.pow_succ]; rfl
  rintro σ H2 ⟨rfl,x3,rfl⟩
  refine ⟨by show 0 ≤ sizeLine; decide,fun D hD=>?_⟩
  refine ⟨_,rfl,(f : Int),rfl,by lia,by lia,bY (n:=f) (lo:=0) (fun i σ Hc=>(∃ x3 x6 x7,σ = [some (.int f),some (.int b),some (.int ((b ^ f : Nat) : Int)),x3,some (.ref D),some (.int ((b ^ i : Nat) : Int)),x6,x7])∧iM H2 D (((List.range i).flatMap fun at_=>(List.range (b ^ f)).flatMap (wrow b at_)).map ci2) Hc) ⟨⟨_,_,_,rfl⟩,aF hD,[],aD,PO.nil,rfl⟩ ?_ ?_⟩
  ·rintro i σ Hc hi ⟨⟨x3,x6,x7,rfl⟩,Pi⟩
   have hbi:=hpw i (by lia)
   have hbp : 0 < b ^ i:=Nat.pow_pos (by lia)
   refine ⟨_,rfl,((b ^ f : Nat) : Int),rfl,by lia,by lia,bY (n:=b ^ f) (lo:=0) (fun j σ H4=>(∃ x3 x6 x7,σ = [some (.int f),some (.int b),some (.int ((b ^ f : Nat) : Int)),x3,some (.ref D),some (.int ((b ^ i : Nat) : Int)),x6,x7])∧iM H2 D ((((List.range i).flatMap fun at_=>(List.range (b ^ f)).flatMap (wrow b at_)) ++ (List.range j).flatMap (wrow b i)).map ci2) H4) ⟨⟨_,_,_,rfl⟩,by simpa using Pi⟩ ?_ ?_⟩
   ·rintro j σ H4 hj ⟨⟨x3,x6,x7,rfl⟩,sm4,zs4,hz4,po4,ez4⟩
    have hdv : ((0 : Int) + (j : Int)) / ((b ^ i : Nat) : Int) % (b : Int) = ((j / b ^ i % b : Nat) : Int):=by rw [Int.zero_add]; rfl
    have hlt : j / b ^ i % b < b:=Nat.mod_lt _ (by lia)
    refine ⟨_,rfl,_,rfl,_,_,rfl,rfl,⟨by lia,by lia⟩,_,rfl,_,_,rfl,rfl,(by show (0 : Int) < (b : Int); lia),?_⟩
    change bL 7 (V.int (((0 : Int) + (j : Int)) / ((b ^ i : Nat) : Int) % (b : Int))) _ _ _
    rw [hdv]
    refine ⟨_,rfl,.inl ⟨rfl,_,SqL.of hz4⟩,_,rfl,_,rfl,_,_,rfl,rfl,1,_,rfl,⟨by lia,by lia,by lia,by lia⟩,fun L hL=>?_⟩
    have hn : ((b : Int) - ((j / b ^ i % b : Nat) : Int) - 1).toNat = b - j / b ^ i % b - 1:=by lia
    rw [hn]
    have zl : zs4.length ≤ 1000:=by
     have e:=congrArg List.length ez4
     rw [bJ,List.length_map,List.length_append] at e
     have z3 : ∀ at_,((List.range (b ^ f)).flatMap (wrow b at_)).length ≤ 160:=fun at_=>Nat.le_trans (fZ fun x=>mY b2) (by lia)
     have z4:=fZ (m:=i) z3
     have z5:=fZ (m:=j) fun x=>mY (at_:=i) (h:=x) b2
     lia
    refine jM (lo:=1) (fun c=>ci2 (j,j + (c + 1) * b ^ i)) (fun σ=>∃ x,σ = [x,some (.int (j : Int)),some (.int ((b ^ i : Nat) : Int))]) hL (by lia) ⟨_,by rw [Int.zero_add]; rfl⟩ ?_ ?_
    ·rintro c σ H5 R Kf hc ⟨x,rfl⟩ sm5 kt
     have hq : (1 + (c : Int)) * ((b ^ i : Nat) : Int) = (((c + 1) * b ^ i : Nat) : Int):=by rw [Int.add_comm]; exact (Int.natCast_mul _ _).symm
     refine ⟨_,rfl,_,rfl,_,rfl,_,rfl,_,_,rfl,rfl,.inr ⟨by lia,by lia⟩,_,_,rfl,rfl,by show 2 ≤ sizeLine; decide,fun t ht=>?_⟩
     rw [hq]
     exact kt _ _ ⟨_,rfl⟩ ht
    ·intro zs H5 s5 hL5 po5 ez5 _
     have e5 : zp zs = (wrow b i j).map ci2:=by rw [ez5]; unfold wrow; rw [List.map_map]; rfl
     have l5 : zs.length ≤ 5:=by rw [← bJ,e5,List.length_map]; exact mY b2
     refine ⟨D,L,_,_,rfl,rfl,s5 _ _ hz4,hL5,by rw [cF,cF]; exact Nat.le_trans (show _ ≤ 1005 by lia) (by decide),⟨_,_,_,rfl⟩,?_⟩
     rw [eX,← List.append_assoc,List.map_append]
     exact iM.ext hD sm4 hz4 po4 ez4 s5 po5 e5
   ·rintro σ H4 ⟨⟨x3,x6,x7,rfl⟩,P4⟩
    refine ⟨_,rfl,_,rfl,_,_,rfl,rfl,.inr ⟨by lia,by lia⟩,⟨x3,x6,x7,?_⟩,?_⟩
    ·rw [Nat.pow_succ]; rfl
    ·rw [eX]; exact P4
  ·rintro σ Hc ⟨⟨x3,x6,x7,rfl⟩,sm,zs2,hD2,po2,ez2⟩
   refine ⟨_,rfl,_,rfl,by show 2 ≤ sizeLine; decide,fun t ht=>?_⟩
   have st:=aF (o:=.tup [.int ((b ^ f : Nat) : Int),.ref D]) ht
   exact k t D zs2 _ (sm.trans st) (sm.free ht) hD aD (st _ _ hD2) (po2.same st) ez2
end
end K12
namespace K12
open PySem L2 NetM
abbrev sOne : Stmt:=top 34
theorem lZ : (["_law_k", "_law_order_here", "_law_n"] : List Str).Nodup:=by decide +kernel
theorem aAY : (["_law_k", "_law_some"] : List Str).Nodup:=by decide +kernel
theorem aAZ : (["_law_tie"] : List Str).Nodup:=by decide +kernel
theorem rH : (["_law_one", "_law_begins"] : List Str).Nodup:=by decide +kernel
theorem vK : (["_law_tie", "_law_ties"] : List Str).Nodup:=by decide +kernel
theorem kZ {xs : List V} {k : Nat} : cutV xs none (some (k : Int)) = xs.take k:=by
 have h1 : HT.sIx xs.length 0 none = 0:=rfl
 have h2 : HT.sIx xs.length xs.length (some (k : Int)) = min k xs.length:=by
  unfold HT.sIx
  simp
  try lia
 unfold cutV
 rw [h1,h2,List.drop_zero,Nat.sub_zero,List.take_eq_take_iff]
 simp
 try lia
theorem jQ {xs : List V} {k : Nat} : cutV xs (some (k : Int)) none = xs.drop k:=by
 have h1 : HT.sIx xs.length 0 (some (k : Int)) = min k xs.length:=by
  unfold HT.sIx
  simp
  try lia
 have h2 : HT.sIx xs.length xs.length none = xs.length:=rfl
 unfold cutV
 rw [h1,h2]
 by_cases c : k ≤ xs.length
 ·rw [Nat.min_eq_left c]
  exact List.take_of_length_le (by rw [List.length_drop]; exact Nat.le_refl _)
 ·rw [Nat.min_eq_right (by lia),List.drop_of_length_le (Nat.le_refl _),List.drop_of_length_le (by lia),List.take_nil]
theorem pS {β : Type} {K : PySem.W.Frag} {a D : Addr} {g : TG} {tt : TT} {te : TE} {fin : Hp→Prop} {σB : St} {H0 : Hp} (ms : List β) (e G : β→V) (shape : St→Prop) (ha : H0 a = some (.lst (ms.map e))) (hD : H0 D = none) (hn : ms.length ≤ 1000) (h0 : shape σB)
  (hs : ∀ m σ H (R : V→St→Hp→Prop) (Kf : St→Hp→Prop),m∈ms→shape σ→Same H0 H→(∀ σ2 H2,shape σ2→Same H H2→R (G m) σ2 H2) →
   g (e m) σ H fun σ2 H2=>tt σ2 H2 fun b H3=>if b = true then te σ2 H3 fun v H4=>R v σ2 H4 else Kf σ2 H3)
  (hd : ∀ H,Same H0 H→H D = some (.lst (ms.map G))→fin H) : dL (Itl K a) g tt te D fin σB (upd H0 D (.lst [])):=by
 refine dC (xs:=ms.map e) (fun i ys σ H=>shape σ∧Same H0 H∧H D = some (.lst ys)∧ys = (ms.take i).map G) ⟨h0,aF hD,aD,rfl⟩ (fun i ys σ H _ z=>SqL.of (z.2.1 _ _ ha)) ?_ ?_
 ·rintro i x ys σ H Kt Kf hx ⟨sh,sm,hDl,rfl⟩ kt kf
  rw [List.getElem?_map] at hx
  cases hz : ms[i]? with
  | none=>rw [hz] at hx; cases hx
  | some m =>
   rw [hz] at hx
   obtain rfl : e m = x:=Option.some.inj hx
   refine hs m σ H Kt Kf (List.mem_of_getElem? hz) sh sm (fun σ2 H2 sh2 s2=>?_)
   refine kt _ _ _ (s2 _ _ hDl) ?_ ⟨sh2,bV (sm.trans s2) hD,aD,?_⟩
   ·rw [List.length_map]
    exact Nat.lt_of_le_of_lt (List.length_take_le' _ _) (Nat.lt_of_le_of_lt hn (by decide))
   ·rw [List.take_add_one,hz,Option.toList_some,List.map_append]; rfl
 ·rintro ys σ H ⟨_,sm,hDl,rfl⟩
  rw [List.length_map,List.take_length] at hDl
  exact hd H sm hDl
theorem rA {h : Int} : ∀ {ts : Ts},((ts.map fun u=>V.int u.1).countP fun z=>eqV z (.int h)) = deg ts h
 | []=>rfl
 | u :: ts=>by
  rw [List.map_cons,List.countP_cons,rA,show u :: ts = [u] ++ ts from rfl,pN]
  have e : eqV (.int u.1) (.int h) = decide (u.1 = h):=by rw [Bool.eq_iff_iff]; simp [eqV]
  rw [e]
  unfold deg
  by_cases c : u.1 = h <;> simp [c] <;> lia
section
variable {P : Program} {w : World} {K : PySem.W.Frag} {mg : Str→Option Value} {base : Heap}
theorem iO : aZ ["_law_pot_here", "_law_n", "_law_order_here", "_law_ties", "_law_turn", "_law_some", "_law_more", "_law_begins"] ["_law_pot_here", "_law_n"] (aM sOne):=⟨rfl,rfl,rfl,by decide +kernel,rfl,by decide +kernel,by decide +kernel⟩
def yZ : Sp:=fun vs H Q _=>∃ (p : Addr) (n : Nat),vs = [.ref p,.int n]∧2 ≤ n∧n ≤ 32∧bC H p∧∀ (r : Addr) (zs : Zs) (H' : Hp),aK p H H'→bC H' p→H r = none→H' r = some (.lst (zr zs))→PO H' zs→Fine n (zp zs)→Q (.ref r) H'
theorem aD5 {f : Addr} {fd : FuncData} (F : Fun K "_law_one_way" "_law_one_way" sOne f fd) (B : Bl mg) (D : Cal P w K mg base CX0 1 "_law_take" ["_law_pot_here", "_law_many"] cY) (OR : Cal P w K mg base CX0 2 "_law_order" ["_law_pot_here", "_law_many"] lV) : FnOk P w K mg base CX0 3 f fd ["_law_pot_here", "_law_n"] yZ:=by
 refine F.ok iO (fun vs H Q E h=>?_) (fun cdv A outer s H vs Q E hr h=>?_)
 ·obtain ⟨p,n,rfl,_⟩:=h
  rfl
 ·obtain ⟨p,n,rfl,n1,n2,hp,q⟩:=h
  have h1 : Room 1 _:=hr.mono (by decide)
  refine' ⟨_,(aE (aS (i:=2) iO.nd rfl (Or.inr rfl) (aO OR hr aR (aA (pv 0) (aA (pv 1) aB))))
   (aE (aS (i:=3) iO.nd rfl (Or.inr rfl) ?c1)
   (aE (cA PassesOwn.never rfl (bH rfl B.range (aA (aO D h1 aR (aA (pv 0) (aA aI aB))) aB)) (aL (i:=4) iO.nd rfl (Or.inl rfl))
    (aE (aS (i:=5) iO.nd rfl (Or.inr rfl) (fR vR (aO OR hr aR (aA (pv 0) (aA (pv 1) aB))) gU (gW (aY cJ aI (aO D h1 aR (aA (pv 0) (aA (aN (qG rfl) (by rfl) B.min PyProof.Rows.boot_min (aA aI (aA (aY iU (pv 1) aI) aB))) aB)))))))
    (aE (dB (i:=6) (g:=(bL 0)) (te:=(tTup (bE (tOp (rIxL K) (tVar 1) (tVar 0)) (bE (tOp (rIxL K) (tVar 1) (tOp (rI (fun _ j=>0 < j) fun i j=>.int (i % j)) (tOp (rI0 fun i j=>.int (i + j)) (tVar 0) (tC (.int 1))) (tCB (fun xs H Q=>∃ p ys,xs = [V.ref p]∧(SqL K H p ys∨SqT K H p ys)∧Q (.int ys.length) H) (bE (tVar 1) tNil)))) tNil)))) (NB:=["_law_k", "_law_some"]) (src:=[none,some 5]) (bR (by kernel_rfl)) rfl (bH rfl B.range (aA (aN aT (by rfl) B.len PySem.boot_len (aA (pv 5) aB)) aB)) ?g2 ?t2 ?e2 iO.nd rfl rfl rfl)
    (aE (aS (i:=7) iO.nd rfl (Or.inr rfl) ?c3)
    (aG (bG (PW.pt (eT (cU (aN (aAw rfl) (by rfl) B.all PyProof.Rows.boot_all (aA ?c5 aB))) (eJ (aQ gG (aN (qY rfl) (by rfl) B.max PyProof.Rows.boot_max (aA ?c4 aB)) aI (aV _))))) (aG (aS (i:=3) iO.nd rfl (Or.inr rfl) (aY aDI (pv 3) (pv 6)))) aW))))))
   (aG (aU (pv 3)))))),?_⟩
  case c1 =>
   refine' bZ (g:=(bL 0)) (te:=(tTup (bE (tOp (rIxL K) (tVar 1) (tVar 0)) (bE (tOp (rIxL K) (tVar 1) (tOp (rI (fun _ j=>0 < j) fun i j=>.int (i % j)) (tOp (rI0 fun i j=>.int (i + j)) (tVar 0) (tC (.int 1))) (tVar 2))) tNil)))) (NB:=["_law_k", "_law_order_here", "_law_n"]) (src:=[none,some 2,some 1]) (bR (by kernel_rfl)) rfl (bH rfl B.range (aA (pv 1) aB)) ?g ?t ?e
   case g=>exact fun cl C s₃ H₃ fp=>(aL (i:=0) lZ rfl (Or.inl rfl) (Or.inr rfl))
   case t=>exact fun cl C s₃ H₃ fp=>cE
   case e=>exact fun cl C s₃ H₃ fp=>(bA (aA (aX bB (pv 1) (pv 0) (fun _ _=>rfl)) (aA (aX bB (pv 1) (aY eE (aY cJ (pv 0) aI) (pv 2)) (fun _ _=>rfl)) aB)))
  case g2=>exact fun cl C s₃ H₃ fp=>(aL (i:=0) aAY rfl (Or.inl rfl) (Or.inr rfl))
  case t2=>exact fun cl C s₃ H₃ fp=>cE
  case e2=>exact fun cl C s₃ H₃ fp=>(bA (aA (aX bB (pv 1) (pv 0) (fun _ _=>rfl)) (aA (aX bB (pv 1) (aY eE (aY cJ (pv 0) aI) (aN aT (by rfl) B.len PySem.boot_len (aA (pv 1) aB))) (fun _ _=>rfl)) aB)))
  case c3 =>
   refine' bZ (g:=(bL 0)) (te:=(tOp (rIxT K) (tVar 0) (tC (.int 0)))) (NB:=["_law_tie"]) (src:=[none]) (bR (by kernel_rfl)) rfl (cC (pv 3)) ?g ?t ?e
   case g=>exact fun cl C s₃ H₃ fp=>(aL (i:=0) aAZ rfl (Or.inl rfl) (Or.inr rfl))
   case t=>exact fun cl C s₃ H₃ fp=>cE
   case e=>exact fun cl C s₃ H₃ fp=>(aX cD (pv 0) aI (fun _ _=>rfl))
  case c4 =>
   refine' bZ (g:=(bL 0)) (te:=(tBM K "list" aAv (tVar 1) (bE (tVar 0) tNil))) (NB:=["_law_one", "_law_begins"]) (src:=[none,some 7]) (bR (by kernel_rfl)) rfl (cC (pv 5)) ?g ?t ?e
   case g=>exact fun cl C s₃ H₃ fp=>(aL (i:=0) rH rfl (Or.inl rfl) (Or.inr rfl))
   case t=>exact fun cl C s₃ H₃ fp=>cE
   case e=>exact fun cl C s₃ H₃ fp=>(eK PySem.F.plainAttrs_list PySem.F.slot_list_count PySem.F.type_list_count aBy (pv 1) (aA (pv 0) aB))
  case c5 =>
   refine' bZ (g:=(bL 0)) (te:=(tOp (rInP K true) (tVar 0) (tVar 1))) (NB:=["_law_tie", "_law_ties"]) (src:=[none,some 3]) (bR (by kernel_rfl)) rfl (cC (pv 6)) ?g ?t ?e
   case g=>exact fun cl C s₃ H₃ fp=>(aL (i:=0) vK rfl (Or.inl rfl) (Or.inr rfl))
   case t=>exact fun cl C s₃ H₃ fp=>cE
   case e=>exact fun cl C s₃ H₃ fp=>(gR (qW hr.u) (pv 0) (pv 1) rfl)
  refine ⟨_,rfl,_,rfl,p,n,rfl,n2,hp,fun O xs H1 s1 hp1 hO hO1 pm=>?_⟩
  have xl : xs.length = n:=by have:=pm.length_eq; rwa [List.length_range] at this
  refine ⟨_,rfl,(n : Int),rfl,by lia,by lia,fun T0 hT0=>?_⟩
  refine jM (lo:=0) (n:=n) (fun k=>(ci (xs.getD k 0),ci (xs.getD ((k + 1) % xs.length) 0))) (fun σ=>∃ x,σ = [x,some (.ref O),some (.int n)]) hT0 (by lia) ⟨_,rfl⟩ ?_ ?_
  ·rintro k σ H2 R Kf hk ⟨x,rfl⟩ sm2 kt
   have e1 : (0 : Int) + (k : Int) = ((k : Nat) : Int):=Int.zero_add _
   have e2 : (((k : Nat) : Int) + 1) % (n : Int) = (((k + 1) % n : Nat) : Int):=by lia
   have hk2 : (k + 1) % n < n:=Nat.mod_lt _ (by lia)
   have hO2:=sm2 _ _ hO1
   rw [e1]
   rw [xl] at kt
   refine ⟨_,rfl,_,rfl,O,_,_,_,rfl,rfl,SqL.of hO2,aP (eA (by lia)),_,rfl,_,rfl,_,_,rfl,rfl,_,rfl,_,_,rfl,rfl,(by show (0 : Int) < (n : Int); lia),O,_,_,_,rfl,rfl,SqL.of hO2,by rw [e2]; exact aP (eA (by lia)),by show 2 ≤ sizeLine; decide,fun t ht=>?_⟩
   exact kt _ _ ⟨_,rfl⟩ ht
  intro zs0 H2 s2 hT2 po2 ez2 _
  have F2 : Fine n (zp zs0):=by
   rw [ez2]
   refine (qX n1 n2 pm).perm ?_
   have:=kW (xs:=xs)
   unfold cyc2 at this
   rw [xl] at this ⊢
   exact this
  have hT0H : H T0 = none:=Classical.byContradiction fun z=>by
   cases e : H T0 with
   | none=>exact z e
   | some o =>
    by_cases c : T0 = p
    ·subst c
     obtain ⟨x,y,e',_⟩:=hp1
     rw [hT0] at e'; cases e'
    ·rw [s1 _ _ e c] at hT0; cases hT0
  have hp2:=hp1.same s2
  refine ⟨_,rfl,p,6,rfl,by decide,by decide,hp2,fun d H3 hd s3 hp3=>⟨(d : Int),rfl,by lia,by lia,bY (n:=d) (lo:=0) (fun i σ Hc=>∃ (T : Addr) (zs : Zs),(∃ a b c e,σ = [some (.ref p),some (.int n),some (.ref O),some (.ref T),a,b,c,e])∧aK p H Hc∧bC Hc p∧H T = none∧Hc T = some (.lst (zr zs))∧PO Hc zs∧Fine n (zp zs)) ⟨T0,zs0,⟨_,_,_,_,rfl⟩,(s1.trans (aK.of s2)).trans s3,hp3,hT0H,s3 _ _ hT2 (hp.ne hT0H),po2.sameE s3 hp2,F2⟩ ?_ ?_⟩⟩
  ·rintro i σ Hc hi ⟨T,zs,⟨x4,x5,x6,x7,rfl⟩,sc,hpc,hT,hTc,po,Fi⟩
   have nTp : T ≠ p:=hp.ne hT
   have hzl : zs.length ≤ 256:=by have:=Fi.len; rwa [bJ] at this
   refine ⟨_,rfl,_,rfl,p,n,rfl,n2,hpc,fun L ys H4 s4 hp4 hL hL4 pm4=>?_⟩
   have yl : ys.length = n:=by have:=pm4.length_eq; rwa [List.length_range] at this
   have nLp : L ≠ p:=hpc.ne hL
   have em : (if (n : Int) - 1 < 5 then (n : Int) - 1 else 5) = ((min 5 (n - 1) : Nat) : Int):=by split <;> lia
   refine ⟨_,rfl,_,rfl,_,_,rfl,rfl,5,_,rfl,p,min 5 (n - 1),by rw [em]; rfl,by lia,by lia,hp4,fun d2 H5 hd2 s5 hp5=>?_⟩
   have hd2' : d2 < 5∧d2 < n - 1:=by lia
   have e3 : (2 : Int) + (d2 : Int) = ((2 + d2 : Nat) : Int):=by lia
   refine ⟨_,_,rfl,rfl,_,rfl,L,_,rfl,SqL.of (s5 _ _ hL4 nLp),fun S hS=>?_⟩
   rw [e3,kZ,← List.map_take]
   have sS:=aF (o:=.lst (NV (ys.take (2 + d2)))) hS
   have hS6 : (upd H5 S (.lst (NV (ys.take (2 + d2))))) S = some (.lst (NV (ys.take (2 + d2)))):=aD
   have s6 : aK p H _:=((sc.trans s4).trans s5).trans (aK.of sS)
   have hp6:=hp5.same sS
   have hT6:=sS _ _ (s5 _ _ (s4 _ _ hTc nTp) nTp)
   have po6:=((po.sameE s4 hpc).sameE s5 hp4).same sS
   have cnd : (ys.take (2 + d2)).Nodup:=(pm4.nodup_iff.mpr List.nodup_range).sublist (List.take_sublist _ _)
   have clt : ∀ x∈ys.take (2 + d2),x < n:=fun x hx=>List.mem_range.mp (pm4.mem_iff.mp (List.mem_of_mem_take hx))
   have cl : (ys.take (2 + d2)).length = 2 + d2:=by rw [List.length_take]; lia
   generalize ys.take (2 + d2) = cs at *
   generalize upd H5 S _ = H6 at *
   refine ⟨_,rfl,S,_,rfl,.inl (SqL.of hS6),(((NV cs).length : Nat) : Int),rfl,by lia,by rw [bD]; lia,fun M hM=>?_⟩
   rw [Int.toNat_natCast,bD]
   refine jM (lo:=0) (n:=cs.length) (fun k=>(ci (cs.getD k 0),ci (cs.getD ((k + 1) % cs.length) 0))) (fun σ=>∃ x,σ = [x,some (.ref S)]) hM (by lia) ⟨_,rfl⟩ ?_ ?_
   ·rintro k σ H7 R Kf hk ⟨x,rfl⟩ sm7 kt
    have e1 : (0 : Int) + (k : Int) = ((k : Nat) : Int):=Int.zero_add _
    have e2 : (((k : Nat) : Int) + 1) % (((NV cs).length : Nat) : Int) = (((k + 1) % cs.length : Nat) : Int):=by rw [bD]; lia
    have hk2 : (k + 1) % cs.length < cs.length:=Nat.mod_lt _ (by lia)
    have hS7:=sm7 _ _ hS6
    rw [e1]
    refine ⟨_,rfl,_,rfl,S,_,_,_,rfl,rfl,SqL.of hS7,aP (eA (by lia)),_,rfl,_,rfl,_,_,rfl,rfl,_,rfl,S,_,rfl,.inl (SqL.of hS7),_,_,rfl,rfl,(by show (0 : Int) < (((NV cs).length : Nat) : Int); rw [bD]; lia),S,_,_,_,rfl,rfl,SqL.of hS7,by rw [e2]; exact aP (eA (by lia)),by show 2 ≤ sizeLine; decide,fun t ht=>?_⟩
    exact kt _ _ ⟨_,rfl⟩ ht
   intro ms H7 s7 hM7 poM ezM _
   have ecy : zp ms = cyc2 cs:=ezM
   have ml : ms.length = cs.length:=by rw [← bJ,ezM,List.length_map,List.length_range]
   have hT7:=s7 _ _ hT6
   have po7:=po6.same s7
   have hS7:=s7 _ _ hS6
   refine ⟨_,rfl,T,rfl,⟨_,SqL.of hT7⟩,fun Bg hB=>?_⟩
   refine pS zs (fun z=>V.ref z.1) (fun z=>V.int z.2.1) (fun σ=>∃ x,σ = [x]) hT7 hB (by lia) ⟨_,rfl⟩ ?_ ?_
   ·rintro z σ H8 R Kf hz ⟨x,rfl⟩ sm8 kt
    exact ⟨_,rfl,z.1,_,0,_,rfl,rfl,SqT.of (sm8 _ _ (po7 z hz)),rfl,kt _ _ ⟨_,rfl⟩ (Same.refl _)⟩
   intro H8 s8 hB8
   have hT8:=s8 _ _ hT7
   have hM8:=s8 _ _ hM7
   have hS8:=s8 _ _ hS7
   have po8:=po7.same s8
   have poM8:=poM.same s8
   have sH8 : aK p H H8:=(s6.trans (aK.of s7)).trans (aK.of s8)
   have hp8:=(hp6.same s7).same s8
   refine ⟨_,rfl,M,rfl,⟨_,SqL.of hM8⟩,fun Al hAl=>?_⟩
   refine pS ms (fun z=>V.ref z.1) (fun z=>V.bl (!decide (z.2∈zp zs))) (fun σ=>∃ x,σ = [x,some (.ref T)]) hM8 hAl (by lia) ⟨_,rfl⟩ ?_ ?_
   ·rintro z σ H9 R Kf hz ⟨x,rfl⟩ sm9 kt
    obtain ⟨l1,l2⟩:=aCi (K:=K) (po8.same sm9)
    exact ⟨_,rfl,_,rfl,z.1,T,z.2,zs.map (fun z : Addr × Int × Int=>z.1),zp zs,rfl,rfl,SqT.of (sm9 _ _ (poM8 z hz)),by rw [← jB]; exact SqL.of (sm9 _ _ hT8),by rw [List.length_map]; exact l1,l2,kt _ _ ⟨_,rfl⟩ (Same.refl _)⟩
   intro H9 s9 hA9
   have hA9' : H9 Al = some (.lst ((ms.map fun z=>!decide (z.2∈zp zs)).map V.bl)):=by rw [hA9,List.map_map]; rfl
   refine ⟨Al,_,rfl,SqL.of hA9',_,rfl,?_⟩
   have hT9:=s9 _ _ hT8
   have po9:=po8.same s9
   have sH9 : aK p H H9:=sH8.trans (aK.of s9)
   have hp9:=hp8.same s9
   refine ite2 (fun c1=>?_) (fun c1=>?_)
   ·have hS9:=s9 _ _ hS8
    have hB9:=s9 _ _ hB8
    refine ⟨_,rfl,S,rfl,⟨_,SqL.of hS9⟩,fun Ct hC=>?_⟩
    refine pS cs (fun (x : Nat)=>V.int (x : Int)) (fun (x : Nat)=>V.int ((deg (zp zs) (ci x) : Nat) : Int)) (fun σ=>∃ x,σ = [x,some (.ref Bg)]) hS9 hC (by lia) ⟨_,rfl⟩ ?_ ?_
    ·rintro x σ H10 R Kf hx ⟨x',rfl⟩ sm10 kt
     have hB10:=sm10 _ _ hB9
     refine ⟨_,rfl,.inl ⟨rfl,_,SqL.of hB10⟩,_,rfl,Bg,_,_,rfl,rfl,hB10,rfl,?_,?_⟩
     ·rw [List.all_map]; exact List.all_eq_true.mpr fun z _=>rfl
     ·have e:=rA (ts:=zp zs) (h:=ci x)
      unfold zp at e
      rw [List.map_map] at e
      have e' : (zs.map fun z=>V.int z.2.1).countP (fun z=>eqV z (.int (ci x))) = deg (zp zs) (ci x):=e
      rw [show V.int (x : Int) = V.int (ci x) from rfl,e']
      exact kt _ _ ⟨_,rfl⟩ (Same.refl _)
    intro H10 s10 hC10
    have hC10' : H10 Ct = some (.lst ((cs.map fun (x : Nat)=>((deg (zp zs) (ci x) : Nat) : Int)).map V.int)):=by rw [hC10,List.map_map]; rfl
    refine ⟨Ct,_,rfl,SqL.of hC10',fun z=>?_,fun Mx hMx hall=>⟨_,_,rfl,rfl,_,rfl,?_⟩⟩
    ·have:=congrArg List.length z
     rw [List.length_map,cl] at this
     simp at this
    have sH10 : aK p H H10:=sH9.trans (aK.of s10)
    have hp10:=hp9.same s10
    have hT10:=s10 _ _ hT9
    have po10:=po9.same s10
    refine ite2 (fun c2=>?_) (fun c2=>?_)
    ·have hM10:=s10 _ _ (s9 _ _ hM8)
     refine ⟨_,rfl,_,rfl,T,M,_,_,rfl,rfl,hT10,hM10,by rw [cF,cF]; exact Nat.le_trans (show _ ≤ 300 by lia) (by decide),fun N hN=>?_⟩
     have sN:=aF (o:=.lst (zr zs ++ zr ms)) hN
     have hNH : H N = none:=Classical.byContradiction fun z=>by
      cases e : H N with
      | none=>exact z e
      | some o =>
       by_cases c : N = p
       ·subst c
        obtain ⟨x,y,e',_⟩:=hp10
        rw [hN] at e'; cases e'
       ·rw [sH10 _ _ e c] at hN; cases hN
     refine ⟨N,zs ++ ms,⟨_,_,_,_,rfl⟩,sH10.trans (aK.of sN),hp10.same sN,hNH,by rw [aD,dD],(po10.append ((poM8.same s9).same s10)).same sN,?_⟩
     rw [dE,ecy]
     refine Fi.round cnd clt (by lia) (fun x hx=>?_) (fun t ht=>?_)
     ·have h7 : ((deg (zp zs) (ci x) : Nat) : Int) ≤ Mx:=hall _ (List.mem_map.mpr ⟨x,hx,rfl⟩)
      have h8 : Mx < 8:=of_decide_eq_true c2
      lia
     ·rw [← ecy] at ht
      obtain ⟨z,hz,rfl⟩:=List.mem_map.mp ht
      have:=List.all_eq_true.mp c1 _ (List.mem_map.mpr ⟨z,hz,rfl⟩)
      simpa using this
    ·exact ⟨T,zs,⟨_,_,_,_,rfl⟩,sH10,hp10,hT,hT10,po10,Fi⟩
   ·refine iteF ?_
    exact ⟨T,zs,⟨_,_,_,_,rfl⟩,sH9,hp9,hT,hT9,po9,Fi⟩
  ·rintro σ Hc ⟨T,zs,⟨x4,x5,x6,x7,rfl⟩,sc,hpc,hT,hTc,po,Fi⟩
   exact ⟨_,rfl,q T zs Hc sc hpc hT hTc po Fi⟩
end
end K12
namespace L2
open PySem PySem.Spec PyProof.Rows
def rR : List Nat→TA
 | []=>tNil
 | n :: ns=>bE (tC (.int (n : Nat))) (rR ns)
def zA : List (List Nat)→TA
 | []=>tNil
 | c :: cs=>bE (tTup (rR c)) (zA cs)
def rdN : Expr→Option Nat
 | .Constant (.int (.ofNat n)) _ _=>some n
 | _=>none
def rdNs : List Expr→Option (List Nat)
 | []=>some []
 | e :: es=>(rdN e).bind fun n=>(rdNs es).map (n :: ·)
def rdTs : List Expr→Option (List (List Nat))
 | []=>some []
 | .Tuple es _ _ :: r=>(rdNs es).bind fun c=>(rdTs r).map (c :: ·)
 | _=>none
theorem aD6 {e : Expr} {n : Nat} (h : rdN e = some n) : ∃ j pos,e = .Constant (.int (n : Nat)) j pos:=by
 unfold rdN at h
 split at h
 ·cases h; exact ⟨_,_,rfl⟩
 ·cases h
theorem wW {X : Cx} : ∀ {es : List Expr} {ns : List Nat},rdNs es = some ns→PA X es (rR ns)
 | [],ns,h=>by cases h; exact aB
 | e :: es,ns,h=>by
  unfold rdNs at h
  obtain ⟨n,h1,h2⟩:=Option.bind_eq_some_iff.mp h
  obtain ⟨ms,h3,rfl⟩:=Option.map_eq_some_iff.mp h2
  obtain ⟨j,pos,rfl⟩:=aD6 h1
  exact aA aI (wW h3)
theorem pT {X : Cx} : ∀ {es : List Expr} {cs : List (List Nat)},rdTs es = some cs→PA X es (zA cs)
 | [],cs,h=>by cases h; exact aB
 | e :: r,cs,h=>by
  unfold rdTs at h
  split at h
  ·cases h; contradiction
  ·rename_i es _ _ r' e'
   cases e'
   obtain ⟨n,h1,h2⟩:=Option.bind_eq_some_iff.mp h
   obtain ⟨ms,h3,rfl⟩:=Option.map_eq_some_iff.mp h2
   exact aA (bA (wW h1)) (pT h3)
  ·cases h
end L2
namespace K12
open PySem L2 NetM
abbrev sNet : Stmt:=top 35
theorem oN : (["_law_k", "_law_order_here"] : List Str).Nodup:=by decide +kernel
theorem aDh {xs : List Nat} {k : Nat} (h : k < xs.length) : atI (NV xs) ((k : Int) - 1) = some (.int ((xs.getD (NetM.pk xs.length k) 0 : Nat) : Int)):=by
 unfold NetM.pk
 by_cases k0 : k = 0
 ·subst k0
  rw [if_pos rfl]
  have e : NV xs = NV (xs.take (xs.length - 1)) ++ [.int ((xs.getD (xs.length - 1) 0 : Nat) : Int)]:=by
   rw [pM]
   congr 1
   conv=>lhs; rw [← List.take_append_drop (xs.length - 1) xs]
   rw [List.drop_eq_getElem_cons (by lia),List.drop_eq_nil_of_le (by lia),cQ (by lia)]
  rw [e]
  exact aBn _ _
 ·rw [if_neg k0,show (k : Int) - 1 = ((k - 1 : Nat) : Int) by lia]
  exact aP (by rw [cQ (by lia)]; exact aDS (by lia))
theorem aA0 : ∀ {ns : List Nat} {σ : St} {H : Hp} {Q : List V→Hp→Prop},Q (NV ns) H→rR ns σ H Q
 | [],σ,H,Q,h=>h
 | n :: ns,σ,H,Q,h=>aA0 (ns:=ns) (Q:=fun xs H2=>Q (.int (n : Nat) :: xs) H2) h
theorem uE : ∀ {cs : List (List Nat)} {σ : St} {H : Hp} {Q : List V→Hp→Prop},(∀ c∈cs,c.length ≤ 5)→(∀ (as : List Addr) (H' : Hp),Same H H'→as.length = cs.length→(∀ i,i < cs.length→H' (as.getD i 0) = some (.tup (NV (cs.getD i []))))→Q (as.map V.ref) H')→zA cs σ H Q
 | [],σ,H,Q,_,h=>h [] H (Same.refl _) rfl fun i hi=>nomatch hi
 | c :: cs,σ,H,Q,hc,h=>by
  refine aA0 (ns:=c) ⟨?_,fun t ht=>?_⟩
  ·rw [bD]; exact Nat.le_trans (hc c List.mem_cons_self) (by decide)
  refine uE (cs:=cs) (fun c hc'=>hc c (List.mem_cons_of_mem _ hc')) fun as H' s l e=>?_
  refine h (t :: as) H' ((aF ht).trans s) (congrArg (· + 1) l) fun i hi=>?_
  cases i with
  | zero=>exact s _ _ aD
  | succ i=>exact e i (Nat.lt_of_succ_lt_succ hi)
section
variable {P : Program} {w : World} {K : PySem.W.Frag} {mg : Str→Option Value} {base : Heap}
theorem fP : aZ ["_law_pot_here", "_law_way", "_law_n", "_law_order_here", "_law_sides", "_law_pairs", "_law_figures", "_law_base"] ["_law_pot_here"] (aM sNet):=⟨rfl,rfl,rfl,by decide +kernel,rfl,by decide +kernel,by decide +kernel⟩
def zB (p : Addr) (H : Hp) (Q : V→Hp→Prop) : Prop:=∀ (t r : Addr) (n : Nat) (zs : Zs) (H' : Hp),aK p H H'→bC H' p→H t = none→H' t = some (.tup [.int n,.ref r])→H r = none→H' r = some (.lst (zr zs))→PO H' zs→Fine n (zp zs)→Q (.ref t) H'
def zC : Sp:=fun vs H Q _=>∃ (p : Addr),vs = [.ref p]∧bC H p∧zB p H Q
theorem zB.go {p r t : Addr} {H H2 : Hp} {Q : V→Hp→Prop} {n : Nat} {zs : Zs} (k : zB p H Q) (s : aK p H H2) (hp : bC H2 p) (hr : H r = none) (hr2 : H2 r = some (.lst (zr zs))) (po : PO H2 zs) (F : Fine n (zp zs)) (ht : H2 t = none) : Q (.ref t) (upd H2 t (.tup [.int n,.ref r])) :=
 k t r n zs _ (s.trans (aK.of (aF ht))) (hp.same (aF ht)) (s.free hp.full ht) aD hr (aF ht _ _ hr2) (po.putN ht) F
abbrev bd (i : Nat) : Stmt:=(bQ sNet).getD i (.Pass ⟨0,0,0,0⟩)
def ifT : Stmt→Expr
 | .If c _ _ _=>c
 | _=>.Constant .none 0 ⟨0,0,0,0⟩
def ifB (i : Nat) : Stmt→Stmt
 | .If _ b _ _=>b.getD i (.Pass ⟨0,0,0,0⟩)
 | _=>.Pass ⟨0,0,0,0⟩
theorem aBW : ∃ es1 q1 q2 q3 q4 es2 a1 a2 k a3 a4 a5 j a6 a7 q5 q6 q7 q8 cs1 cs2,bQ sNet = [bd 0,bd 1,bd 2,bd 3,.If (ifT (bd 4)) [.Assign [.Name "_law_sides" q1] (.List es1 q2) q3,ifB 1 (bd 4),ifB 2 (bd 4)] [] q4,
   .If (ifT (bd 5)) [.Assign [.Tuple [.Name "_law_figures" a1,.Name "_law_base" a2] k a3] (.Subscript (.List es2 q5) (.Call (.Name "_law_take" a4) [.Name "_law_pot_here" a5,.Constant (.int 9) j a6] [] a7) q6) q7,ifB 1 (bd 5),ifB 2 (bd 5)] [] q8,bd 6,bd 7]∧rdTs es1 = some cs1∧rdTs es2 = some cs2∧cs1 = [[5],[8],[2,2],[3,3],[3,4],[2,3,4],[3,3,3],[2,2,2,2,2],[4,8]]∧cs2 = [[1,3],[1,5],[2,2],[2,3],[2,4],[2,5],[3,3],[4,2],[5,2]] :=
 ⟨_,_,_,_,_,_,_,_,_,_,_,_,_,_,_,_,_,_,_,[[5],[8],[2,2],[3,3],[3,4],[2,3,4],[3,3,3],[2,2,2,2,2],[4,8]],[[1,3],[1,5],[2,2],[2,3],[2,4],[2,5],[3,3],[4,2],[5,2]],rfl,by decide +kernel,by decide +kernel,rfl,rfl⟩
theorem aD7 {f : Addr} {fd : FuncData} (F : Fun K "_law_net" "_law_net" sNet f fd) (B : Bl mg) (D : Cal P w K mg base CX0 1 "_law_take" ["_law_pot_here", "_law_many"] cY) (OR : Cal P w K mg base CX0 2 "_law_order" ["_law_pot_here", "_law_many"] lV)
  (TR : Cal P w K mg base CX0 2 "_law_tree" ["_law_pot_here", "_law_n"] iH) (ME : Cal P w K mg base CX0 3 "_law_mesh" ["_law_pot_here", "_law_n"] iH) (BO : Cal P w K mg base CX0 1 "_law_both" ["_law_pairs"] uC) (BX : Cal P w K mg base CX0 1 "_law_box" ["_law_sides"] yY) (WO : Cal P w K mg base CX0 1 "_law_words" ["_law_figures", "_law_base"] pR) (OW : Cal P w K mg base CX0 3 "_law_one_way" ["_law_pot_here", "_law_n"] yZ) : FnOk P w K mg base CX0 4 f fd ["_law_pot_here"] zC:=by
 refine F.ok fP (fun vs H Q E h=>?_) (fun cdv A outer s H vs Q E hr h=>?_)
 ·obtain ⟨p,rfl,_⟩:=h
  rfl
 ·obtain ⟨p,rfl,hp,q⟩:=h
  have h1 : Room 1 _:=hr.mono (by decide)
  have h2 : Room 2 _:=hr.mono (by decide)
  obtain ⟨es1,q1,q2,q3,q4,es2,a1,a2,k,a3,a4,a5,j,a6,a7,q5,q6,q7,q8,cs1,cs2,eb,hes1,hes2,ec1,ec2⟩:=aBW
  rw [eb]
  refine' ⟨_,(aE (aS (i:=1) fP.nd rfl (Or.inl rfl) (aO D h1 aR (aA (pv 0) (aA aI aB))))
   (aE (aS (i:=2) fP.nd rfl (Or.inl rfl) (aY cJ aI (aO D h1 aR (aA (pv 0) (aA (aX bB (bW (aA aI (aA aI (aA aI aB)))) (aO D h1 aR (aA (pv 0) (aA aI aB))) (fun _ _=>rfl)) aB)))))
   (aE (bG (aQ gG (pv 1) aI (aV _)) (aG (aU (bA (aA (pv 2) (aA (aO BO h1 aR (aA (aO TR h2 aR (aA (pv 0) (aA (pv 2) aB))) aB)) aB))))) aW)
   (aE (bG (aQ cP (pv 1) aI (aV _)) (aE (aS (i:=3) fP.nd rfl (Or.inr rfl) (aO OR h2 aR (aA (pv 0) (aA (aN (jZ rfl) (by rfl) B.max PyProof.Rows.boot_max (aA aI (aA (pv 2) aB))) aB))))
    (aG (aU (bA (aA (aN aT (by rfl) B.len PySem.boot_len (aA (pv 3) aB)) (aA (aO BO h1 aR (aA ?c1 aB)) aB)))))) aW)
   (aE (bG (aQ cP (pv 1) aI (aV _)) (aE (aS (i:=4) fP.nd rfl (Or.inl rfl) (bW (pT hes1)))
    (aE (cV (aO BX h1 aR (aA (aX bB (pv 4) (aO D h1 aR (aA (pv 0) (aA aI aB))) (fun _ _=>rfl)) aB)) (dH (n:=2) rfl (bF (aL (i:=2) fP.nd rfl (Or.inl rfl)) (bF (aL (i:=5) fP.nd rfl (Or.inl rfl)) cN))))
    (aG (aU (bA (aA (pv 2) (aA (aO BO h1 aR (aA (pv 5) aB)) aB))))))) aW)
   (aE (bG (aQ cP (pv 1) aI (aV _)) (aE (cV (aX bB (bW (pT hes2)) (aO D h1 aR (aA (pv 0) (aA aI aB))) (fun _ _=>rfl)) (dH (n:=2) rfl (bF (aL (i:=6) fP.nd rfl (Or.inl rfl)) (bF (aL (i:=7) fP.nd rfl (Or.inl rfl)) cN))))
    (aE (cV (aO WO h1 aR (aA (pv 6) (aA (pv 7) aB))) (dH (n:=2) rfl (bF (aL (i:=2) fP.nd rfl (Or.inl rfl)) (bF (aL (i:=5) fP.nd rfl (Or.inl rfl)) cN))))
    (aG (aU (bA (aA (pv 2) (aA (aO BO h1 aR (aA (pv 5) aB)) aB))))))) aW)
   (aE (bG (aQ cP (pv 1) aI (aV _)) (aG (aU (bA (aA (pv 2) (aA (aO BO h1 aR (aA (aO ME hr aR (aA (pv 0) (aA (pv 2) aB))) aB)) aB))))) aW)
   (aG (aU (bA (aA (pv 2) (aA (aO OW hr aR (aA (pv 0) (aA (pv 2) aB))) aB)))))))))))),?_⟩
  case c1 =>
   refine' bZ (g:=(bL 0)) (te:=(tTup (bE (tOp (rIxL K) (tVar 1) (tVar 0)) (bE (tOp (rIxL K) (tVar 1) (tOp (rI0 fun i j=>.int (i - j)) (tVar 0) (tC (.int 1)))) tNil)))) (NB:=["_law_k", "_law_order_here"]) (src:=[none,some 3]) (bR (by kernel_rfl)) rfl (bH rfl B.range (aA (aN aT (by rfl) B.len PySem.boot_len (aA (pv 3) aB)) aB)) ?g ?t ?e
   case g=>exact fun cl C s₃ H₃ fp=>(aL (i:=0) oN rfl (Or.inl rfl) (Or.inr rfl))
   case t=>exact fun cl C s₃ H₃ fp=>cE
   case e=>exact fun cl C s₃ H₃ fp=>(bA (aA (aX bB (pv 1) (pv 0) (fun _ _=>rfl)) (aA (aX bB (pv 1) (aY iU (pv 0) aI) (fun _ _=>rfl)) aB)))
  refine ⟨_,rfl,p,8,rfl,by decide,by decide,hp,fun wy H1 hw s1 hp1=>⟨_,rfl,by show 3 ≤ sizeLine; decide,fun L hL=>⟨_,rfl,p,3,rfl,by decide,by decide,hp1.same (aF hL),fun d1 H2 hd1 s2 hp2=>?_⟩⟩⟩
  have nL : L ≠ p:=hp1.ne hL
  obtain ⟨mm,em,mm1,mm2⟩ : ∃ m : Nat,([V.int 3,.int 9,.int 31] : List V)[d1]? = some (.int m)∧0 < m∧m ≤ 31:=by
   match d1,hd1 with
   | 0,_=>exact ⟨3,rfl,by decide,by decide⟩
   | 1,_=>exact ⟨9,rfl,by decide,by decide⟩
   | 2,_=>exact ⟨31,rfl,by decide,by decide⟩
  refine ⟨L,_,_,_,rfl,rfl,SqL.of (s2 _ _ aD nL),aP em,p,mm,rfl,mm1,by lia,hp2,fun d2 H3 hd2 s3 hp3=>?_⟩
  have e2 : (2 : Int) + (d2 : Int) = ((2 + d2 : Nat) : Int):=by lia
  refine ⟨_,_,rfl,rfl,?_⟩
  change bL 2 (V.int ((2 : Int) + (d2 : Int))) _ _ _
  rw [e2]
  have n1 : 2 ≤ 2 + d2:=by lia
  have n2 : 2 + d2 ≤ 32:=by lia
  generalize 2 + d2 = n at *
  have sH : aK p H H3:=((s1.trans (aK.of (aF hL))).trans s2).trans s3
  clear s1 s2 s3 hp1 hp2 hL nL
  refine ⟨_,rfl,_,_,rfl,rfl,_,rfl,ite2 (fun c=>?_) (fun c0=>?_)⟩
  ·refine ⟨_,rfl,_,rfl,_,rfl,p,n,rfl,n1,n2,hp3,fun r zs H4 s4 hp4 hr4 hr4' po F4 _=>?_⟩
   have zl : zs.length ≤ 256:=by have:=F4.len; rw [fA,bJ] at this; lia
   refine ⟨r,zs,rfl,hr4',po,by lia,fun r2 zs2 H5 s5 hr5 hr5' po5 e5=>⟨by show 2 ≤ sizeLine; decide,fun t ht=>?_⟩⟩
   exact q.go ((sH.trans s4).trans (aK.of s5)) (hp4.same s5) ((sH.trans s4).free hp4.full hr5) hr5' po5 (by rw [e5]; exact F4) ht
  refine ⟨_,rfl,rfl,_,rfl,ite2 (fun c=>?_) (fun c1=>?_)⟩
  ·have em : (if (3 : Int) < (n : Int) then (n : Int) else 3) = ((max 3 n : Nat) : Int):=by split <;> lia
   refine ⟨_,rfl,_,rfl,3,_,rfl,p,max 3 n,by rw [em]; rfl,by lia,hp3,fun O xs H4 s4 hp4 hO hO4 pm=>?_⟩
   have m1 : 3 ≤ max 3 n:=by lia
   have m2 : max 3 n ≤ 32:=by lia
   generalize max 3 n = m at *
   have xl : xs.length = m:=by have:=pm.length_eq; rwa [List.length_range] at this
   refine ⟨_,rfl,O,_,rfl,.inl (SqL.of hO4),_,rfl,O,_,rfl,.inl (SqL.of hO4),(((NV xs).length : Nat) : Int),rfl,by lia,by rw [bD]; lia,fun R hR=>?_⟩
   rw [Int.toNat_natCast,bD]
   refine jM (lo:=0) (n:=xs.length) (fun k=>swp (ci (xs.getD (pk xs.length k) 0),ci (xs.getD k 0))) (fun σ=>∃ x,σ = [x,some (.ref O)]) hR (by lia) ⟨_,rfl⟩ ?_ ?_
   ·rintro k σ H5 R' Kf hk ⟨x,rfl⟩ sm5 kt
    have hO5:=sm5 _ _ hO4
    rw [Int.zero_add]
    refine ⟨_,rfl,_,rfl,O,_,_,_,rfl,rfl,SqL.of hO5,aP (eA hk),_,rfl,_,rfl,_,_,rfl,rfl,O,_,_,_,rfl,rfl,SqL.of hO5,aDh hk,by show 2 ≤ sizeLine; decide,fun t ht=>?_⟩
    exact kt _ _ ⟨_,rfl⟩ ht
   intro zs H5 s5 hR5 po5 ez5 _
   have ez : zp zs = (cyc xs).map swp:=by rw [ez5]; unfold cyc; rw [List.map_map]; rfl
   have zl : zs.length ≤ 32:=by rw [← bJ,ez5,List.length_map,List.length_range]; lia
   refine ⟨R,zs,rfl,hR5,po5,by lia,fun r2 zs2 H6 s6 hr6 hr6' po6 e6=>⟨by show 2 ≤ sizeLine; decide,fun t ht=>?_⟩⟩
   rw [xl]
   refine q.go ((sH.trans s4).trans (aK.of (s5.trans s6))) ((hp4.same s5).same s6) ((sH.trans s4).free hp4.full (s5.free hr6)) hr6' po6 ?_ ht
   rw [e6,ez]
   exact (vH m1 m2 pm).perm vI
  refine ⟨_,rfl,rfl,_,rfl,ite2 (fun c=>?_) (fun c2=>?_)⟩
  ·refine uE (cs:=cs1) (by rw [ec1]; decide) fun as H4 s4 la ea=>⟨?_,fun S hS=>?_⟩
   ·rw [List.length_map,la,ec1]; show 9 ≤ sizeLine; decide
   have sS:=aF (o:=.lst (as.map V.ref)) hS
   refine ⟨_,rfl,_,rfl,p,9,rfl,by decide,by decide,(hp3.same s4).same sS,fun d H5 hd s5 hp5=>?_⟩
   have had : as[d]? = some (as.getD d 0):=by rw [List.getD_eq_getElem?_getD,List.getElem?_eq_getElem (by rw [la,ec1]; exact hd)]; rfl
   have nS : S ≠ p:=(hp3.same s4).ne hS
   have ga:=ea d (by rw [ec1]; exact hd)
   have ga5:=s5 _ _ (sS _ _ ga) ((hp3.same s4).neT ga)
   have sd : ∀ d,d < 9→yX (([[5],[8],[2,2],[3,3],[3,4],[2,3,4],[3,3,3],[2,2,2,2,2],[4,8]] : List (List Nat)).getD d []):=by unfold yX; decide
   have sd:=sd d hd
   rw [← ec1] at sd
   refine ⟨S,_,_,_,rfl,rfl,SqL.of (s5 _ _ aD nS),aP (by rw [List.getElem?_map,had]; rfl),_,_,rfl,ga5,sd,fun t r zs H6 s6 ht hr6 ht6 hr6' po6 e6=>?_⟩
   refine ⟨t,_,rfl,SqT.of ht6,rfl,_,_,rfl,_,_,rfl,rfl,?_⟩
   generalize hns : List.getD cs1 d [] = ns at sd ga5 e6
   clear ga ea
   have Fb:=aBE (fun x hx=>(sd.2.2.1 x hx).1) (by rintro rfl; exact absurd sd.1 (by decide)) sd.2.2.2
   have zl : zs.length ≤ 256:=by have:=Fb.len; rw [← e6,fA,bJ] at this; lia
   refine ⟨_,rfl,_,rfl,r,zs,rfl,hr6',po6,by lia,fun r2 zs2 H7 s7 hr7 hr7' po7 e7=>⟨by show 2 ≤ sizeLine; decide,fun t ht=>?_⟩⟩
   refine q.go ((((sH.trans (aK.of (s4.trans sS))).trans s5)).trans (aK.of (s6.trans s7))) ((hp5.same s6).same s7) (((sH.trans (aK.of (s4.trans sS))).trans s5).free hp5.full (s6.free hr7)) hr7' po7 ?_ ht
   rw [e7,e6]; exact Fb
  refine ⟨_,rfl,rfl,_,rfl,ite2 (fun c=>?_) (fun c3=>?_)⟩
  ·refine uE (cs:=cs2) (by rw [ec2]; decide) fun as H4 s4 la ea=>⟨?_,fun S hS=>?_⟩
   ·rw [List.length_map,la,ec2]; show 9 ≤ sizeLine; decide
   have sS:=aF (o:=.lst (as.map V.ref)) hS
   refine ⟨_,rfl,p,9,rfl,by decide,by decide,(hp3.same s4).same sS,fun d H5 hd s5 hp5=>?_⟩
   have had : as[d]? = some (as.getD d 0):=by rw [List.getD_eq_getElem?_getD,List.getElem?_eq_getElem (by rw [la,ec2]; exact hd)]; rfl
   have nS : S ≠ p:=(hp3.same s4).ne hS
   have ga:=ea d (by rw [ec2]; exact hd)
   have ga5:=s5 _ _ (sS _ _ ga) ((hp3.same s4).neT ga)
   have sd : ∀ d,d < 9→∃ f b : Nat,([[1,3],[1,5],[2,2],[2,3],[2,4],[2,5],[3,3],[4,2],[5,2]] : List (List Nat)).getD d [] = [f,b]∧1 ≤ f∧f ≤ 5∧2 ≤ b∧b ≤ 5∧b ^ f ≤ 32:=fun d hd =>
    ⟨(([[1,3],[1,5],[2,2],[2,3],[2,4],[2,5],[3,3],[4,2],[5,2]] : List (List Nat)).getD d []).getD 0 0,(([[1,3],[1,5],[2,2],[2,3],[2,4],[2,5],[3,3],[4,2],[5,2]] : List (List Nat)).getD d []).getD 1 0,by revert d; decide⟩
   obtain ⟨fg,b,es,f1,f2,b1,b2,hm⟩:=sd d hd
   rw [ec2,es] at ga5
   refine ⟨S,_,_,_,rfl,rfl,SqL.of (s5 _ _ aD nS),aP (by rw [List.getElem?_map,had]; rfl),_,_,rfl,SqT.of ga5,rfl,_,_,rfl,_,_,rfl,rfl,?_⟩
   refine ⟨_,rfl,_,rfl,fg,b,rfl,f1,f2,b1,b2,hm,fun t r zs H6 s6 ht hr6 ht6 hr6' po6 e6=>?_⟩
   refine ⟨t,_,rfl,SqT.of ht6,rfl,_,_,rfl,_,_,rfl,rfl,?_⟩
   have Fb:=(yH f1 f2 b1 b2 hm).1
   have zl : zs.length ≤ 256:=by have:=Fb.len; rw [← e6,fA,bJ] at this; lia
   refine ⟨_,rfl,_,rfl,r,zs,rfl,hr6',po6,by lia,fun r2 zs2 H7 s7 hr7 hr7' po7 e7=>⟨by show 2 ≤ sizeLine; decide,fun t ht=>?_⟩⟩
   refine q.go ((((sH.trans (aK.of (s4.trans sS))).trans s5)).trans (aK.of (s6.trans s7))) ((hp5.same s6).same s7) (((sH.trans (aK.of (s4.trans sS))).trans s5).free hp5.full (s6.free hr7)) hr7' po7 ?_ ht
   rw [e7,e6]; exact Fb
  refine ⟨_,rfl,rfl,_,rfl,ite2 (fun c=>?_) (fun c4=>?_)⟩
  ·refine ⟨_,rfl,_,rfl,_,rfl,p,n,rfl,n1,n2,hp3,fun r zs H4 s4 hp4 hr4 hr4' po F4 _=>?_⟩
   have zl : zs.length ≤ 256:=by have:=F4.len; rw [fA,bJ] at this; lia
   refine ⟨r,zs,rfl,hr4',po,by lia,fun r2 zs2 H5 s5 hr5 hr5' po5 e5=>⟨by show 2 ≤ sizeLine; decide,fun t ht=>?_⟩⟩
   exact q.go ((sH.trans s4).trans (aK.of s5)) (hp4.same s5) ((sH.trans s4).free hp4.full hr5) hr5' po5 (by rw [e5]; exact F4) ht
  refine ⟨_,rfl,_,rfl,_,rfl,p,n,rfl,n1,n2,hp3,fun r zs H4 s4 hp4 hr4 hr4' po F4=>⟨by show 2 ≤ sizeLine; decide,fun t ht=>?_⟩⟩
  exact q.go (sH.trans s4) hp4 (sH.free hp3.full hr4) hr4' po F4 ht
end
end K12
namespace K12
open PySem L2 NetM
abbrev uF : Stmt:=top 36
theorem oO : (["_law_step", "_law_house", "_law_n"] : List Str).Nodup:=by decide +kernel
theorem jR : (["_law_there", "_law_house", "_law_known"] : List Str).Nodup:=by decide +kernel
theorem aDi {lo : Int} {n : Nat} {D : Addr} {g : TG} {tt : TT} {te : TE} {fin : Hp→Prop} {σB : St} {H0 : Hp} (G : Nat→V) (shape : St→Prop) (hD : H0 D = none) (hn : n ≤ 1000) (h0 : shape σB)
  (hs : ∀ x σ H (R : V→St→Hp→Prop) (Kf : St→Hp→Prop),x < n→shape σ→Same H0 H→(∀ σ2 H2,shape σ2→Same H H2→R (G x) σ2 H2)→g (.int (lo + (x : Nat))) σ H fun σ2 H2=>tt σ2 H2 fun b H3=>if b = true then te σ2 H3 fun v H4=>R v σ2 H4 else Kf σ2 H3)
  (hd : ∀ H,Same H0 H→H D = some (.lst ((List.range n).map G))→fin H) : dL (Itr lo n) g tt te D fin σB (upd H0 D (.lst [])):=by
 refine dO (fun i ys σ H=>shape σ∧Same H0 H∧H D = some (.lst ys)∧ys = (List.range i).map G) ⟨h0,aF hD,aD,rfl⟩ ?_ ?_
 ·rintro i ys σ H Kt Kf hi ⟨sh,sm,hDl,rfl⟩ kt kf
  refine hs i σ H Kt Kf hi sh sm (fun σ2 H2 sh2 s2=>?_)
  refine kt _ _ _ (s2 _ _ hDl) ?_ ⟨sh2,bV (sm.trans s2) hD,aD,by rw [List.range_succ,List.map_append]; rfl⟩
  rw [List.length_map,List.length_range]
  exact Nat.lt_of_lt_of_le (show i < 1000 by lia) (by decide)
 ·rintro ys σ H ⟨_,sm,hDl,rfl⟩
  exact hd H sm hDl
theorem aDj {β : Type} {K : PySem.W.Frag} {a D : Addr} {g : TG} {tt : TT} {te : TE} {fin : Hp→Prop} {σB : St} {H0 : Hp} (ms : List β) (e : β→V) (c : β→Bool) (shape : St→Prop) (ha : H0 a = some (.lst (ms.map e))) (hD : H0 D = none) (hn : ms.length ≤ 1000) (h0 : shape σB)
  (hs : ∀ m σ H (Kt : V→St→Hp→Prop) (Kf : St→Hp→Prop),m∈ms→shape σ→Same H0 H→(∀ σ2 H2,shape σ2→Same H H2→c m = true→Kt (e m) σ2 H2)→(∀ σ2 H2,shape σ2→Same H H2→c m = false→Kf σ2 H2) →
   g (e m) σ H fun σ2 H2=>tt σ2 H2 fun b H3=>if b = true then te σ2 H3 fun v H4=>Kt v σ2 H4 else Kf σ2 H3)
  (hd : ∀ H,Same H0 H→H D = some (.lst ((ms.filter c).map e))→fin H) : dL (Itl K a) g tt te D fin σB (upd H0 D (.lst [])):=by
 refine dC (xs:=ms.map e) (fun i ys σ H=>shape σ∧Same H0 H∧H D = some (.lst ys)∧ys = ((ms.take i).filter c).map e) ⟨h0,aF hD,aD,rfl⟩ (fun i ys σ H _ z=>SqL.of (z.2.1 _ _ ha)) ?_ ?_
 ·rintro i x ys σ H Kt Kf hx ⟨sh,sm,hDl,rfl⟩ kt kf
  rw [List.getElem?_map] at hx
  cases hz : ms[i]? with
  | none=>rw [hz] at hx; cases hx
  | some m =>
   rw [hz] at hx
   obtain rfl : e m = x:=Option.some.inj hx
   have tk : ms.take (i + 1) = ms.take i ++ [m]:=by rw [List.take_add_one,hz]; rfl
   refine hs m σ H Kt Kf (List.mem_of_getElem? hz) sh sm (fun σ2 H2 sh2 s2 hc=>?_) (fun σ2 H2 sh2 s2 hc=>?_)
   ·refine kt _ _ _ (s2 _ _ hDl) ?_ ⟨sh2,bV (sm.trans s2) hD,aD,by rw [tk,List.filter_append]; simp [List.filter_cons,hc]⟩
    rw [List.length_map]
    exact Nat.lt_of_le_of_lt (Nat.le_trans (List.length_filter_le _ _) (List.length_take_le' _ _)) (Nat.lt_of_le_of_lt hn (by decide))
   ·exact kf _ _ ⟨sh2,sm.trans s2,s2 _ _ hDl,by rw [tk,List.filter_append]; simp [List.filter_cons,hc]⟩
 ·rintro ys σ H ⟨_,sm,hDl,rfl⟩
  rw [List.length_map,List.take_length] at hDl
  exact hd H sm hDl
def tk2 (u : Int × Int) : List Key:=[.inl u.1,.inl u.2]
theorem uG {k : List Key} : ∀ {ps : List TK} {m : List (List Key × V)},(valV (cG m ps) k).isSome = true↔(valV m k).isSome = true∨k∈ps.map fun p : TK=>p.1
 | [],m=>by unfold cG; simp
 | p :: ps,m=>by
  have ih:=uG (k:=k) (ps:=ps) (m:=putK m p.1 p.2.2)
  rw [show cG m (p :: ps) = cG (putK m p.1 p.2.2) ps from rfl,ih,aBv]
  by_cases c : k = p.1
  ·rw [if_pos c]; simp [c]
  ·rw [if_neg c,List.map_cons]; simp [c]
theorem aDk {u : Int × Int} {ts : Ts} : tk2 u∈ts.map tk2↔u∈ts:=by
 constructor
 ·intro h
  obtain ⟨v,hv,e⟩:=List.mem_map.mp h
  unfold tk2 at e
  injection e with e1 e2
  injection e2 with e2 _
  rw [show u = v from Prod.ext (Sum.inl.inj e1).symm (Sum.inl.inj e2).symm]
  exact hv
 ·exact fun h=>List.mem_map.mpr ⟨u,h,rfl⟩
theorem aDl {n : Nat} {ts : Ts} (F : Fine n ts) {h : Nat} (hh : h < n) : ((List.range (n - 1)).map fun s=>(h + (s + 1)) % n).filter (fun o=>decide ((ci h,ci o)∈ts)) = outN n ts h:=by
 unfold outN
 obtain ⟨m,rfl⟩ : ∃ m,n = m + 1:=⟨n - 1,by lia⟩
 have e0 : (h + 0) % (m + 1) = h:=Nat.mod_eq_of_lt hh
 rw [List.range_succ_eq_map,List.map_cons,List.filter_cons,List.map_map,e0]
 have nt : ¬ T ts h h:=fun z=>F.ne _ z rfl
 rw [if_neg (fun z=>nt (of_decide_eq_true z)),show m + 1 - 1 = m from rfl]
 exact List.filter_congr fun o _=>decide_eq_decide.mpr Iff.rfl
section
variable {P : Program} {w : World} {K : PySem.W.Frag} {mg : Str→Option Value} {base : Heap}
theorem jF : aZ ["_law_n", "_law_ties", "_law_known", "_law_found", "_law_house", "_law_round_it"] ["_law_n", "_law_ties"] (aM uF):=⟨rfl,rfl,rfl,by decide +kernel,rfl,by decide +kernel,by decide +kernel⟩
def pU : Sp:=fun vs H Q _=>∃ (n : Nat) (l : Addr) (zs : Zs),vs = [.int n,.ref l]∧H l = some (.lst (zr zs))∧PO H zs∧Fine n (zp zs)∧∀ (r : Addr) (H' : Hp),Same H H'→H r = none→bT H' (fun a=>H a = none) r n (outN n (zp zs))→Q (.ref r) H'
theorem aBX {f : Addr} {fd : FuncData} (F : Fun K "_law_outs" "_law_outs" uF f fd) (B : Bl mg) (B2 : Bl2 mg) : FnOk P w K mg base CX0 1 f fd ["_law_n", "_law_ties"] pU:=by
 refine F.ok jF (fun vs H Q E h=>?_) (fun cdv A outer s H vs Q E hr h=>?_)
 ·obtain ⟨n,l,zs,rfl,_⟩:=h
  rfl
 ·obtain ⟨n,l,zs,rfl,hl,po,Fi,q⟩:=h
  have n1:=Fi.n1
  have n2:=Fi.n2
  have zl : zs.length ≤ 256:=by have:=Fi.len; rwa [bJ] at this
  refine' ⟨_,(aE (aS (i:=2) jF.nd rfl (Or.inr rfl) (cT (yQ rfl hr.u) (by rfl) B2.dict PyProof.Rows.boot_dict (aA ?c1 aB)))
   (aE (aS (i:=3) jF.nd rfl (Or.inl rfl) (bW aB))
   (aE (cA PassesOwn.never rfl (bH rfl B.range (aA (pv 0) aB)) (aL (i:=4) jF.nd rfl (Or.inr rfl))
    (aE (dB (i:=5) (g:=(bL 0)) (te:=(tOp (rI (fun _ j=>0 < j) fun i j=>.int (i % j)) (tOp (rI0 fun i j=>.int (i + j)) (tVar 1) (tVar 0)) (tVar 2))) (NB:=["_law_step", "_law_house", "_law_n"]) (src:=[none,some 4,some 0]) (bR (by kernel_rfl)) rfl (jX rfl B.range (aA aI (aA (pv 0) aB))) ?g2 ?t2 ?e2 jF.nd rfl rfl rfl)
    (aG (cM (eK PySem.F.plainAttrs_list PySem.F.slot_list_append PySem.F.type_list_append dJ (pv 3) (aA ?c3 aB))))))
   (aG (aU (pv 3)))))),?_⟩
  case c1 =>
   refine' bZ (g:=(bL 0)) (te:=(tTup (bE (tVar 0) (bE (tC (.bl true)) tNil)))) (NB:=["_law_tie"]) (src:=[none]) (bR (by kernel_rfl)) rfl (cC (pv 1)) ?g ?t ?e
   case g=>exact fun cl C s₃ H₃ fp=>(aL (i:=0) aAZ rfl (Or.inl rfl) (Or.inr rfl))
   case t=>exact fun cl C s₃ H₃ fp=>cE
   case e=>exact fun cl C s₃ H₃ fp=>(bA (aA (pv 0) (aA lC aB)))
  case g2=>exact fun cl C s₃ H₃ fp=>(aL (i:=0) oO rfl (Or.inl rfl) (Or.inr rfl))
  case t2=>exact fun cl C s₃ H₃ fp=>cE
  case e2=>exact fun cl C s₃ H₃ fp=>(aY eE (aY cJ (pv 1) (pv 0)) (pv 2))
  case c3 =>
   refine' bZ (g:=(bL 0)) (tt:=(tB (tDIn (tTup (bE (tVar 1) (bE (tVar 0) tNil))) (tVar 2)))) (te:=(tVar 0)) (NB:=["_law_there", "_law_house", "_law_known"]) (src:=[none,some 4,some 2]) (bR (by kernel_rfl)) rfl (cC (pv 5)) ?g ?t ?e
   case g=>exact fun cl C s₃ H₃ fp=>(aL (i:=0) jR rfl (Or.inl rfl) (Or.inr rfl))
   case t=>exact fun cl C s₃ H₃ fp=>eN (aDw (aDO hr.u (bA (aA (pv 1) (aA (pv 0) aB))) (pv 2)))
   case e=>exact fun cl C s₃ H₃ fp=>(pv 0)
  refine ⟨_,rfl,l,rfl,⟨_,SqL.of hl⟩,fun D1 hD1=>?_⟩
  refine dC (xs:=zr zs) (fun i ys σ H2=>(∃ x,σ = [x])∧Same H H2∧H2 D1 = some (.lst ys)∧∃ as : List Addr,ys = as.map V.ref∧as.length = i∧∀ j,j < i→∃ z,zs[j]? = some z∧H2 (as.getD j 0) = some (.tup [.ref z.1,.bl true])) ⟨⟨_,rfl⟩,aF hD1,aD,[],rfl,rfl,fun j hj=>absurd hj (Nat.not_lt_zero _)⟩ (fun i ys σ H2 _ z=>SqL.of (z.2.1 _ _ hl)) ?_ ?_
  ·rintro i x ys σ H2 Kt Kf hx ⟨⟨x',rfl⟩,sm,hDl,as,rfl,al,ah⟩ kt kf
   obtain ⟨z,hz,rfl⟩:=jC hx
   have hi : i < zs.length:=(List.getElem?_eq_some_iff.mp hz).1
   refine ⟨_,rfl,by show 2 ≤ sizeLine; decide,fun t ht=>?_⟩
   have st:=aF (o:=.tup [.ref z.1,.bl true]) ht
   have nD : D1 ≠ t:=aJ hDl ht
   refine kt _ _ _ (st _ _ hDl) (by rw [List.length_map,al]; exact Nat.lt_of_lt_of_le (show i < 1000 by lia) (by decide)) ⟨⟨_,rfl⟩,bV (sm.trans st) hD1,aD,as ++ [t],by rw [List.map_append]; rfl,by rw [List.length_append,al]; rfl,fun j hj=>?_⟩
   by_cases c : j < i
   ·obtain ⟨z',e1,e2⟩:=ah j c
    refine ⟨z',e1,?_⟩
    have e3:=st _ _ e2
    rw [List.getD_eq_getElem?_getD,List.getElem?_append_left (by lia),← List.getD_eq_getElem?_getD,aH (by rintro e; rw [e,st _ _ hDl] at e3; cases e3)]
    exact e3
   ·obtain rfl : j = i:=by lia
    refine ⟨z,hz,?_⟩
    rw [List.getD_eq_getElem?_getD,List.getElem?_append_right (by lia),al,Nat.sub_self]
    show (upd _ D1 _) t = _
    rw [aH nD.symm]
    exact aD
  rintro ys σ H2 ⟨_,s2,hD2,as,rfl,al,ah⟩
  rw [cF] at al ah
  refine ⟨D1,as,zs.map fun z=>(tk2 z.2,z.1,V.bl true),rfl,hD2,by rw [List.length_map]; exact al,fun i hi=>?_,by rw [List.length_map]; lia,fun Kn hK=>?_⟩
  ·rw [List.length_map] at hi
   obtain ⟨z,e1,e2⟩:=ah i hi
   exact ⟨tk2 z.2,z.1,.bl true,by rw [List.getElem?_map,e1]; rfl,e2,s2 _ _ (po z (List.mem_of_getElem? e1))⟩
  have known : ∀ u : Int × Int,(valV (cG [] (zs.map fun z=>(tk2 z.2,z.1,V.bl true))) (tk2 u)).isSome = decide (u∈zp zs):=fun u=>by
   rw [Bool.eq_iff_iff,uG,List.map_map,decide_eq_true_eq]
   have e : ((fun p : TK=>p.1) ∘ fun z : Addr × Int × Int=>(tk2 z.2,z.1,V.bl true)) = tk2 ∘ fun z : Addr × Int × Int=>z.2:=rfl
   rw [e,← List.map_map]
   have:=aDk (u:=u) (ts:=zp zs)
   unfold zp at this ⊢
   rw [this]
   simp [valV]
  have sK:=aF (o:=.dT (cG [] (zs.map fun z=>(tk2 z.2,z.1,V.bl true)))) hK
  have hKK : (upd H2 Kn (.dT (cG [] (zs.map fun z=>(tk2 z.2,z.1,V.bl true))))) Kn = some (.dT (cG [] (zs.map fun z=>(tk2 z.2,z.1,V.bl true)))):=aD
  generalize cG [] _ = kd at *
  refine ⟨by show 0 ≤ sizeLine; decide,fun R hR=>?_⟩
  have s3 : Same H _:=s2.trans sK
  have hK3:=aF (o:=.lst []) hR _ _ hKK
  have hRH:=s3.free hR
  have s4:=s3.trans (aF (o:=.lst []) hR)
  refine ⟨_,rfl,(n : Int),rfl,by lia,by lia,bY (n:=n) (lo:=0) (fun i σ Hc=>(∃ a b,σ = [some (.int n),some (.ref l),some (.ref Kn),some (.ref R),a,b])∧Same H Hc∧Hc Kn = some (.dT kd)∧∃ bs : List Addr,Hc R = some (.lst (bs.map V.ref))∧(∀ b∈bs,H b = none∧b ≠ R)∧Holds Hc bs i fun h=>.lst (NV (outN n (zp zs) h))) ⟨⟨_,_,rfl⟩,s4,hK3,[],aD,fun b hb=>(nomatch hb),Holds.nil⟩ ?_ ?_⟩
  ·rintro i σ Hc hi ⟨⟨x4,x5,rfl⟩,sc,hKc,bs,hRc,fr,hb⟩
   have nKR : Kn ≠ R:=by rintro rfl; rw [hKc] at hRc; cases hRc
   rw [Int.zero_add]
   refine ⟨_,rfl,1,(n : Int),rfl,⟨by decide,by decide,by lia,by lia⟩,fun D2 hD2=>?_⟩
   rw [show ((n : Int) - 1).toNat = n - 1 by lia]
   refine aDi (lo:=1) (n:=n - 1) (fun s=>V.int (((i + (s + 1)) % n : Nat) : Int)) (fun σ=>∃ x,σ = [x,some (.int (i : Nat)),some (.int n)]) hD2 (by lia) ⟨_,rfl⟩ ?_ ?_
   ·rintro x σ H4 R' Kf hx ⟨x',rfl⟩ sm4 kt
    have e : ((i : Int) + (1 + (x : Int))) % (n : Int) = (((i + (x + 1)) % n : Nat) : Int):=by lia
    refine ⟨_,rfl,_,rfl,_,_,rfl,rfl,_,rfl,_,_,rfl,rfl,(by show (0 : Int) < (n : Int); lia),?_⟩
    have:=kt [some (.int (1 + (x : Int))),some (.int (i : Nat)),some (.int n)] H4 ⟨_,rfl⟩ (Same.refl _)
    rw [← e] at this
    exact this
   intro H4 s4 hD4
   have hD4' : H4 D2 = some (.lst (((List.range (n - 1)).map fun s=>(i + (s + 1)) % n).map fun (x : Nat)=>V.int (x : Int))):=by rw [hD4,List.map_map]; rfl
   have hR4:=s4 _ _ hRc
   refine ⟨_,rfl,.inl ⟨rfl,_,SqL.of hR4⟩,_,rfl,D2,rfl,⟨_,SqL.of hD4'⟩,fun D3 hD3=>?_⟩
   refine aDj ((List.range (n - 1)).map fun s=>(i + (s + 1)) % n) (fun (x : Nat)=>V.int (x : Int)) (fun o=>decide ((ci i,ci o)∈zp zs)) (fun σ=>∃ x,σ = [x,some (.int (i : Nat)),some (.ref Kn)]) hD4' hD3 (by rw [List.length_map,List.length_range]; lia) ⟨_,rfl⟩ ?_ ?_
   ·rintro m σ H5 Kt Kf hm ⟨x',rfl⟩ sm5 kt kf
    refine ⟨_,rfl,_,rfl,by show 2 ≤ sizeLine; decide,fun t ht=>?_⟩
    have st:=aF (o:=.tup [.int (i : Int),.int (m : Int)]) ht
    have hK5:=st _ _ (sm5 _ _ (s4 _ _ hKc))
    refine ⟨_,rfl,Kn,_,rfl,DGet.t (k:=tk2 (ci i,ci m)) hK5 aD,_,rfl,?_⟩
    rw [known]
    refine ite2 (fun c=>?_) (fun c=>?_)
    ·exact ⟨_,rfl,kt _ _ ⟨_,rfl⟩ st c⟩
    ·exact kf _ _ ⟨_,rfl⟩ st (by simpa using c)
   intro H5 s5 hD5
   rw [aDl Fi hi] at hD5
   have hR5:=s5 _ _ hR4
   have bl : bs.length = i:=hb.1
   have nDR : D3 ≠ R:=by rintro rfl; rw [hR4] at hD3; cases hD3
   refine ⟨R,_,_,rfl,rfl,hR5,by rw [List.length_map,bl]; exact Nat.lt_of_lt_of_le (show i < 33 by lia) (by decide),⟨_,_,rfl⟩,bV ((sc.trans s4).trans s5) hRH,?_,bs ++ [D3],by rw [aD,List.map_append]; rfl,fun b hb'=>?_,?_⟩
   ·rw [aH nKR]; exact s5 _ _ (s4 _ _ hKc)
   ·rcases List.mem_append.mp hb' with z | z
    ·exact fr b z
    ·rw [List.mem_singleton.mp z]; exact ⟨(sc.trans s4).free hD3,nDR⟩
   ·refine Holds.snoc (hb.mono fun j hj e=>?_) (by rw [aH nDR]; exact hD5)
    have e5:=s5 _ _ (s4 _ _ e)
    have hm : bs.getD j 0∈bs:=by rw [List.getD_eq_getElem?_getD,List.getElem?_eq_getElem (by lia)]; exact List.getElem_mem _
    rw [aH (fr _ hm).2]; exact e5
  ·rintro σ Hc ⟨⟨x4,x5,rfl⟩,sc,hKc,bs,hRc,fr,hb⟩
   exact ⟨_,rfl,q R Hc sc hRH ⟨bs,hRc,fun b hb'=>(fr b hb').1,hb⟩⟩
end
end K12
namespace K12
open PySem L2 NetM
abbrev uH : Stmt:=top 37
theorem fW : (["_law_house", "_law_home", "_law_many", "_law_outs_here"] : List Str).Nodup:=by decide +kernel
def oV : Option Nat→V
 | none=>.non
 | some k=>.int (k : Int)
theorem aK.put {p a : Addr} {H H' : Hp} {o : HO} (s : aK p H H') (e : H a = none) : aK p H (upd H' a o):=fun b o' h n=>by
 rw [aH (aJ h e)]; exact s _ _ h n
section
variable {P : Program} {w : World} {K : PySem.W.Frag} {mg : Str→Option Value} {base : Heap}
theorem dY : aZ ["_law_pot_here", "_law_n", "_law_outs_here", "_law_many", "_law_homes", "_law_stand_here", "_law_crowd", "_law_k", "_law_home", "_law_some", "_law_house"] ["_law_pot_here", "_law_n", "_law_outs_here"] (aM uH):=⟨rfl,rfl,rfl,by decide +kernel,rfl,by decide +kernel,by decide +kernel⟩
structure Stnd (n : Nat) (ts : Ts) (homes : List Nat) (st : List (Option Nat)) : Prop where
 len : homes.length = st.length
 le : st.length ≤ 16
 hs : ∀ x∈homes,x < n
 ss : ∀ y,some y∈st→y < n
 cap : ∀ y,y < n→st.count (some y) ≤ (outN n ts y).length
def pV : Sp:=fun vs H Q _=>∃ (p : Addr) (n : Nat) (r : Addr) (ts : Ts) (L : Addr→Prop),vs = [.ref p,.int n,.ref r]∧2 ≤ n∧n ≤ 32∧bC H p∧bT H L r n (outN n ts)∧L r∧¬ L p ∧
 ∀ (t a b : Addr) (homes : List Nat) (st : List (Option Nat)) (H' : Hp),aK p H H'→bC H' p→H' t = some (.tup [.ref a,.ref b])→H' a = some (.tup (NV homes))→H' b = some (.tup (st.map oV))→Stnd n ts homes st→Q (.ref t) H'
theorem aBY {f : Addr} {fd : FuncData} (F : Fun K "_law_stand" "_law_stand" uH f fd) (B : Bl mg) (D : Cal P w K mg base CX0 1 "_law_take" ["_law_pot_here", "_law_many"] cY) : FnOk P w K mg base CX0 2 f fd ["_law_pot_here", "_law_n", "_law_outs_here"] pV:=by
 refine F.ok dY (fun vs H Q E h=>?_) (fun cdv A outer s H vs Q E hr h=>?_)
 ·obtain ⟨p,n,r,ts,L,rfl,_⟩:=h
  rfl
 ·obtain ⟨p,n,r,ts,L,rfl,n1,n2,hp,R0,hLr,hLp,q⟩:=h
  refine' ⟨_,(aE (aS (i:=3) dY.nd rfl (Or.inr rfl) (aY zX (bW (aA aI aB)) (pv 1)))
   (aE (aDz (i:=4) (j:=5) rfl dY.nd rfl rfl (by decide) rfl rfl (aA (bW aB) (aA (bW aB) aB)) (by rfl))
   (aE (aS (i:=6) dY.nd rfl (Or.inl rfl) (aO D hr aR (aA (pv 0) (aA aI aB))))
   (aE (cA PassesOwn.never rfl (bH rfl B.range (aA (aO D hr aR (aA (pv 0) (aA aI aB))) aB)) (aL (i:=7) dY.nd rfl (Or.inl rfl))
    (aE (aS (i:=8) dY.nd rfl (Or.inr rfl) (aO D hr aR (aA (pv 0) (aA (pv 1) aB))))
    (aE (dB (i:=9) (g:=(bL 0)) (tt:=(tAnd (gI (tOp (rNe) (tVar 0) (tVar 1))) (gI (tOp (rI0 fun i j=>.bl (decide (i < j))) (tOp (rIxL K) (tVar 2) (tVar 0)) (tCB (fun xs H Q=>∃ p ys,xs = [V.ref p]∧(SqL K H p ys∨SqT K H p ys)∧Q (.int ys.length) H) (bE (tOp (rIxL K) (tVar 3) (tVar 0)) tNil)))))) (te:=(tVar 0)) (NB:=["_law_house", "_law_home", "_law_many", "_law_outs_here"]) (src:=[none,some 8,some 3,some 2]) (bR (by kernel_rfl)) rfl (bH rfl B.range (aA (pv 1) aB)) ?g1 ?t1 ?e1 dY.nd rfl rfl rfl)
    (aE (bG (aQ cP (pv 6) aI (aV _)) (aG (aS (i:=9) dY.nd rfl (Or.inl rfl) (fR vR (pv 9) gU (gW aI)))) aW)
    (aE (aS (i:=10) dY.nd rfl (Or.inl rfl) cB)
    (aE (bG (PW.pt (eT (aQ (sR (e:=eqV) hr.u) (pv 9) (bW aB) (aV _)) (eJ (aQ rJ (aO D hr aR (aA (pv 0) (aA aI aB))) aI (aV _))))) (aE (aS (i:=10) dY.nd rfl (Or.inl rfl) (aX bB (pv 9) (aO D hr aR (aA (pv 0) (aA (aN aT (by rfl) B.len PySem.boot_len (aA (pv 9) aB)) aB))) (fun _ _=>rfl)))
     (aG (cV (aY cJ (aX bB (pv 3) (pv 10) (fun _ _=>rfl)) aI) (hU (pv 3) (pv 10) eY)))) aW)
    (aE (cM (eK PySem.F.plainAttrs_list PySem.F.slot_list_append PySem.F.type_list_append dJ (pv 4) (aA (pv 8) aB)))
    (aG (cM (eK PySem.F.plainAttrs_list PySem.F.slot_list_append PySem.F.type_list_append dJ (pv 5) (aA (pv 10) aB)))))))))))
   (aG (aU (bA (aA (cT gA (by rfl) B.tup PyProof.Rows.boot_tuple (aA (pv 4) aB)) (aA (cT gA (by rfl) B.tup PyProof.Rows.boot_tuple (aA (pv 5) aB)) aB))))))))),?_⟩
  case g1=>exact fun cl C s₃ H₃ fp=>(aL (i:=0) fW rfl (Or.inl rfl) (Or.inr rfl))
  case t1=>exact fun cl C s₃ H₃ fp=>eN (PW.pt (eT (aQ gE (pv 0) (pv 1) (aV _)) (eJ (aQ gG (aX bB (pv 2) (pv 0) (fun _ _=>rfl)) (aN aT (by rfl) B.len PySem.boot_len (aA (aX bB (pv 3) (pv 0) (fun _ _=>rfl)) aB)) (aV _)))))
  case e1=>exact fun cl C s₃ H₃ fp=>(pv 0)
  refine ⟨by show 1 ≤ sizeLine; decide,fun L1 hL1=>⟨_,rfl,L1,_,_,rfl,rfl,aD,by lia,by lia,by rw [Int.toNat_natCast,List.length_singleton]; exact Nat.le_trans (show 1 * n ≤ 32 by lia) (by decide),fun M hM=>?_⟩⟩
  rw [Int.toNat_natCast,mW]
  have eM : List.replicate n (V.int 0) = NV (List.replicate n 0):=by unfold NV; rw [List.map_replicate]; rfl
  rw [eM]
  refine ⟨by show 0 ≤ sizeLine; decide,fun Hs hHs=>⟨by show 0 ≤ sizeLine; decide,fun St hSt=>⟨_,_,rfl,?_⟩⟩⟩
  have s1:=aF (o:=.lst [.int 0]) hL1
  have s2:=s1.trans (aF (o:=.lst (NV (List.replicate n 0))) hM)
  have s3:=s2.trans (aF (o:=.lst []) hHs)
  have s4:=s3.trans (aF (o:=.lst []) hSt)
  have fM:=s1.free hM
  have fH:=s2.free hHs
  have fS:=s3.free hSt
  have gM:=aF (o:=.lst []) hSt _ _ (aF (o:=.lst []) hHs _ _ (aD (H:=upd H L1 (.lst [.int 0])) (a:=M) (o:=.lst (NV (List.replicate n 0)))))
  have gH:=aF (o:=.lst []) hSt _ _ (aD (H:=upd (upd H L1 (.lst [.int 0])) M (.lst (NV (List.replicate n 0)))) (a:=Hs) (o:=.lst []))
  have gS:=aD (H:=upd (upd (upd H L1 (.lst [.int 0])) M (.lst (NV (List.replicate n 0)))) Hs (.lst [])) (a:=St) (o:=.lst [])
  have nMH : M ≠ Hs:=aJ aD hHs
  have nMS : M ≠ St:=aJ (aF hHs _ _ aD) hSt
  have nHS : Hs ≠ St:=aJ aD hSt
  have nMp:=hp.ne fM
  have nHp:=hp.ne fH
  have nSp:=hp.ne fS
  generalize upd (upd (upd (upd H L1 _) M _) Hs _) St _ = H1 at *
  have hp1:=hp.same s4
  refine ⟨_,rfl,p,2,rfl,by decide,by decide,hp1,fun cr H2 hcr s5 hp2=>⟨_,rfl,p,17,rfl,by decide,by decide,hp2,fun d H3 hd s6 hp3=>⟨(d : Int),rfl,by lia,by lia,?_⟩⟩⟩
  refine bY (n:=d) (lo:=0) (fun i σ Hc=>∃ (ms homes : List Nat) (st : List (Option Nat)),(∃ a b c e,σ = [some (.ref p),some (.int n),some (.ref r),some (.ref M),some (.ref Hs),some (.ref St),some (.int (cr : Int)),a,b,c,e])∧aK p H Hc∧bC Hc p∧Hc M = some (.lst (NV ms))∧ms.length = n∧Hc Hs = some (.lst (NV homes))∧Hc St = some (.lst (st.map oV))∧homes.length = i∧st.length = i∧(∀ x∈homes,x < n)∧(∀ y,some y∈st→y < n)∧∀ y,y < n→st.count (some y) = ms.getD y 0∧ms.getD y 0 ≤ (outN n ts y).length)
   ⟨List.replicate n 0,[],[],⟨_,_,_,_,rfl⟩,((aK.of s4).trans s5).trans s6,hp3,s6 _ _ (s5 _ _ gM nMp) nMp,List.length_replicate,s6 _ _ (s5 _ _ gH nHp) nHp,s6 _ _ (s5 _ _ gS nSp) nSp,rfl,rfl,fun x hx=>(nomatch hx),fun y hy=>(nomatch hy),fun y hy=>by rw [List.getD_eq_getElem?_getD,List.getElem?_replicate,if_pos hy]; exact ⟨rfl,Nat.zero_le _⟩⟩ ?_ ?_
  ·rintro i σ Hc hi ⟨ms,homes,st,⟨x7,x8,x9,x10,rfl⟩,sc,hpc,hMc,ml,hHc,hSc,hl1,hl2,hb1,hb2,hcp⟩
   refine ⟨_,rfl,_,rfl,p,n,rfl,by lia,by lia,hpc,fun home H4 hhome s7 hp4=>?_⟩
   have sH4:=sc.trans s7
   have hM4:=s7 _ _ hMc nMp
   have R4 : bT H4 L r n (outN n ts):=R0.keep hLr fun b o l e=>sH4 b o e fun z=>hLp (z ▸ l)
   obtain ⟨bs,b1,b2,b3⟩:=R4
   refine ⟨_,rfl,(n : Int),rfl,by lia,by lia,fun D1 hD1=>?_⟩
   refine pO (lo:=0) (n:=n) (fun x=>decide (x ≠ home) && decide (ms.getD x 0 < (outN n ts x).length)) (fun σ=>∃ a,σ = [a,some (.int (home : Int)),some (.ref M),some (.ref r)]) hD1 (by lia) ⟨_,rfl⟩ ?_ ?_
   ·rintro x σ H5 Kt Kf hx ⟨a',rfl⟩ sm5 kt kf
    rw [Int.zero_add] at kt ⊢
    refine ⟨_,rfl,_,rfl,rfl,_,rfl,?_⟩
    refine ite2 (fun c=>?_) (fun c=>?_)
    ·have c : x ≠ home:=by have:=c; simp at this; lia
     have gb : (bs.map V.ref)[x]? = some (.ref (bs.getD x 0)):=by
      rw [List.getElem?_map,List.getD_eq_getElem?_getD,List.getElem?_eq_getElem (by rw [b3.1]; exact hx)]; rfl
     refine ⟨_,rfl,_,rfl,M,_,_,_,rfl,rfl,SqL.of (sm5 _ _ hM4),aP (eA (by lia)),_,rfl,_,rfl,r,_,_,_,rfl,rfl,SqL.of (sm5 _ _ b1),aP gb,_,_,rfl,.inl (SqL.of (sm5 _ _ (b3.2 x hx))),_,_,rfl,rfl,_,rfl,?_⟩
     rw [bD]
     refine ite2 (fun c2=>?_) (fun c2=>?_)
     ·have c2:=of_decide_eq_true c2
      exact ⟨_,rfl,kt _ _ ⟨_,rfl⟩ (Same.refl _) (by rw [decide_eq_true c,decide_eq_true (show ms.getD x 0 < (outN n ts x).length by lia)]; rfl)⟩
     ·exact kf _ _ ⟨_,rfl⟩ (Same.refl _) (by rw [decide_eq_false (show ¬ ms.getD x 0 < (outN n ts x).length from fun z=>c2 (decide_eq_true (by lia))),Bool.and_false])
    ·have c : x = home:=by have:=c; simp at this; lia
     refine iteF (kf _ _ ⟨_,rfl⟩ (Same.refl _) (by simp [c]))
   intro H5 s8 hD5
   have e0 : ∀ c : Nat→Bool,(((List.range n).filter c).map fun (x : Nat)=>V.int (0 + (x : Int))) = NV ((List.range n).filter c):=fun c=>List.map_congr_left fun x _=>by rw [Int.zero_add]
   rw [e0] at hD5
   have hfs : ∀ x∈(List.range n).filter (fun x=>decide (x ≠ home) && decide (ms.getD x 0 < (outN n ts x).length)),x < n∧ms.getD x 0 < (outN n ts x).length:=fun x hx=>⟨List.mem_range.mp (List.mem_filter.mp hx).1,of_decide_eq_true (Bool.and_eq_true_iff.mp (List.mem_filter.mp hx).2).2⟩
   have hfl : ((List.range n).filter (fun x=>decide (x ≠ home) && decide (ms.getD x 0 < (outN n ts x).length))).length ≤ 32:=Nat.le_trans (List.length_filter_le _ _) (by rw [List.length_range]; exact n2)
   generalize (List.range n).filter _ = fs at *
   have sH5:=sH4.trans (aK.of s8)
   have hp5:=hp4.same s8
   have hM5:=s8 _ _ hM4
   have hH5:=s8 _ _ (s7 _ _ hHc nHp)
   have hS5:=s8 _ _ (s7 _ _ hSc nSp)
   have fD1:=sH4.free hp4.full hD1
   clear s7 s8 hMc hHc hSc hM4 b1 b2 b3 hpc sc
   dsimp only
   refine iK (fun σ H6=>∃ (S : Addr) (fs : List Nat),(∃ a,σ = [some (.ref p),some (.int n),some (.ref r),some (.ref M),some (.ref Hs),some (.ref St),some (.int (cr : Int)),a,some (.int (home : Int)),some (.ref S),x10])∧Same H5 H6∧H6 S = some (.lst (NV fs))∧S ≠ p∧(∀ x∈fs,x < n∧ms.getD x 0 < (outN n ts x).length)∧fs.length ≤ 32) ?_ ?_
   ·rintro σ H6 ⟨S,fs,⟨x7,rfl⟩,s9,hS6,nS,hfs,hfl⟩
    have sH6:=sH5.trans (aK.of s9)
    have hp6:=hp5.same s9
    have hM6:=s9 _ _ hM5
    have hH6:=s9 _ _ hH5
    have hS6':=s9 _ _ hS5
    refine iK (fun σ H7=>H7 = H6∧σ = [some (.ref p),some (.int n),some (.ref r),some (.ref M),some (.ref Hs),some (.ref St),some (.int (cr : Int)),x7,some (.int (home : Int)),some (.ref S),some .non]) ?_ (fun N hN=>hN _ _ ⟨rfl,rfl⟩)
    rintro σ H7 ⟨rfl,rfl⟩
    refine iK (fun σ H7=>∃ (o : Option Nat) (ms' : List Nat),(∃ a,σ = [some (.ref p),some (.int n),some (.ref r),some (.ref M),some (.ref Hs),some (.ref St),some (.int (cr : Int)),a,some (.int (home : Int)),some (.ref S),some (oV o)])∧aK p H H7∧bC H7 p∧H7 M = some (.lst (NV ms'))∧ms'.length = n∧H7 Hs = some (.lst (NV homes))∧H7 St = some (.lst (st.map oV))∧(∀ y,o = some y→y < n)∧∀ y,y < n→(st ++ [o]).count (some y) = ms'.getD y 0∧ms'.getD y 0 ≤ (outN n ts y).length) ?_ ?_
    ·rintro σ H7 ⟨o,ms',⟨x7',rfl⟩,sH7,hp7,hM7,ml',hH7,hS7,ho,hcp'⟩
     refine ⟨_,rfl,.inl ⟨rfl,_,SqL.of hH7⟩,_,rfl,Hs,_,_,rfl,rfl,hH7,by rw [bD]; exact Nat.lt_of_lt_of_le (show homes.length < 33 by lia) (by decide),?_⟩
     have hS8 : (upd H7 Hs (.lst (NV homes ++ [.int (home : Int)]))) St = some (.lst (st.map oV)):=by rw [aH nHS.symm]; exact hS7
     refine ⟨_,rfl,.inl ⟨rfl,_,SqL.of hS8⟩,_,rfl,St,_,_,rfl,rfl,hS8,by rw [List.length_map]; exact Nat.lt_of_lt_of_le (show st.length < 33 by lia) (by decide),?_⟩
     refine ⟨ms',homes ++ [home],st ++ [o],⟨_,_,_,_,rfl⟩,aK.put (aK.put sH7 fH) fS,(hp7.put nHp.symm).put nSp.symm,by rw [aH nMS,aH nMH]; exact hM7,ml',by rw [aH nHS,aD,pM],by rw [aD,List.map_append]; rfl,by rw [List.length_append,hl1]; rfl,by rw [List.length_append,hl2]; rfl,fun x hx=>?_,fun y hy=>?_,hcp'⟩
     ·rcases List.mem_append.mp hx with z | z
      ·exact hb1 x z
      ·rw [List.mem_singleton.mp z]; exact hhome
     ·rcases List.mem_append.mp hy with z | z
      ·exact hb2 y z
      ·exact ho y (List.mem_singleton.mp z).symm
    ·intro N hN
     refine ⟨_,rfl,by show 0 ≤ sizeLine; decide,fun E1 hE1=>?_⟩
     have sE:=aF (o:=.lst []) hE1
     refine ⟨S,E1,_,[],rfl,rfl,SqL.of (sE _ _ hS6),SqL.of aD,fun i h1 h2=>absurd h2 (by simp),_,rfl,?_⟩
     rw [if_pos rfl,kX]
     have sH7:=sH6.trans (aK.of sE)
     have hp7:=hp6.same sE
     have hM7:=sE _ _ hM6
     have hH7:=sE _ _ hH6
     have hS7:=sE _ _ hS6'
     have hL7:=sE _ _ hS6
     have hc0 : ∀ y,y < n→(st ++ [none]).count (some y) = ms.getD y 0∧ms.getD y 0 ≤ (outN n ts y).length:=fun y hy=>by rw [List.count_append,List.count_singleton,if_neg (by simp),Nat.add_zero]; exact hcp y hy
     by_cases e : NV fs = []
     ·rw [decide_eq_true e]
      exact iteF (iteF (hN _ _ ⟨none,ms,⟨_,rfl⟩,sH7,hp7,hM7,ml,hH7,hS7,fun y hy=>(nomatch hy),hc0⟩))
     ·rw [decide_eq_false e]
      have hl : 0 < fs.length:=by
       rcases fs with _ | ⟨x,xs⟩
       ·exact absurd rfl e
       ·simp
      refine iteT ⟨_,rfl,p,6,rfl,by decide,by decide,hp7,fun d6 H8 hd6 s8 hp8=>⟨_,_,rfl,rfl,_,rfl,ite2 (fun c=>?_) (fun c=>?_)⟩⟩
      ·refine ⟨_,rfl,_,rfl,_,rfl,S,_,rfl,.inl (SqL.of (s8 _ _ hL7 nS)),p,_,rfl,by rw [bD]; exact hl,by rw [bD]; lia,hp8,fun d7 H9 hd7 s9' hp9=>?_⟩
       rw [bD] at hd7
       have hv : fs[d7]? = some fs[d7]:=List.getElem?_eq_getElem hd7
       have hsm : fs.getD d7 0∈fs:=by rw [List.getD_eq_getElem?_getD,hv]; exact List.getElem_mem _
       refine ⟨S,_,_,_,rfl,rfl,SqL.of (s9' _ _ (s8 _ _ hL7 nS) nS),aP (eA hd7),?_⟩
       obtain ⟨hyn,hyc⟩:=hfs _ hsm
       generalize fs.getD d7 0 = y at *
       have sH9:=(sH7.trans s8).trans s9'
       have hM9:=s9' _ _ (s8 _ _ hM7 nMp) nMp
       have hym : y < ms.length:=by lia
       refine ⟨_,rfl,_,rfl,M,_,_,_,rfl,rfl,SqL.of hM9,aP (eA hym),_,_,rfl,rfl,_,rfl,_,rfl,M,_,(y : Int),y,rfl,rfl,hM9,eO (by rw [bD]; exact hym),?_⟩
       refine hN _ _ ⟨some y,ms.set y (ms.getD y 0 + 1),⟨_,rfl⟩,aK.put sH9 fM,hp9.put nMp.symm,?_,by rw [List.length_set]; exact ml,?_,?_,(fun z hz=>by cases hz; exact hyn),fun z hz=>?_⟩
       ·rw [aD]
        exact congrArg (fun l=>some (HO.lst l)) (oK (x:=ms.getD y 0 + 1))
       ·rw [aH nMH.symm]; exact s9' _ _ (s8 _ _ hH7 nHp) nHp
       ·rw [aH nMS.symm]; exact s9' _ _ (s8 _ _ hS7 nSp) nSp
       ·rw [List.count_append,List.count_singleton,List.getD_eq_getElem?_getD,List.getElem?_set]
        obtain ⟨g1,g2⟩:=hcp z hz
        by_cases c : y = z
        ·subst c
         rw [if_pos (by simp),if_pos rfl,if_pos hym]
         exact ⟨congrArg (· + 1) g1,hyc⟩
        ·rw [if_neg (by simp [c]),if_neg c,← List.getD_eq_getElem?_getD]
         exact ⟨g1,g2⟩
      ·exact hN _ _ ⟨none,ms,⟨_,rfl⟩,sH7.trans s8,hp8,s8 _ _ hM7 nMp,ml,s8 _ _ hH7 nHp,s8 _ _ hS7 nSp,fun y hy=>(nomatch hy),hc0⟩
   ·intro N hN
    refine ⟨_,rfl,rfl,_,rfl,ite2 (fun c=>?_) (fun c=>hN _ _ ⟨D1,fs,⟨_,rfl⟩,Same.refl _,hD5,hp.ne fD1,hfs,hfl⟩)⟩
    refine ⟨_,rfl,_,rfl,D1,_,rfl,SqL.of hD5,fun S hS=>?_⟩
    have e3 : cutV (NV fs) none (some 3) = NV (fs.take 3):=by rw [show (3 : Int) = ((3 : Nat) : Int) from rfl,kZ]; unfold NV; rw [List.map_take]
    refine hN _ _ ⟨S,fs.take 3,⟨_,rfl⟩,aF hS,by rw [aD,e3],hp5.ne hS,fun x hx=>hfs x (List.mem_of_mem_take hx),Nat.le_trans (List.length_take_le' _ _) hfl⟩
  ·rintro σ Hc ⟨ms,homes,st,⟨x7,x8,x9,x10,rfl⟩,sc,hpc,hMc,ml,hHc,hSc,hl1,hl2,hb1,hb2,hcp⟩
   refine ⟨_,rfl,Hs,_,rfl,.inl ⟨SqL.of hHc,fun a ha=>?_⟩⟩
   have sa:=aF (o:=.tup (NV homes)) ha
   refine ⟨_,rfl,St,_,rfl,.inl ⟨SqL.of (sa _ _ hSc),fun b hb=>⟨by show 2 ≤ sizeLine; decide,fun t ht=>?_⟩⟩⟩
   have sb:=aF (o:=.tup (st.map oV)) hb
   have st':=aF (o:=.tup [.ref a,.ref b]) ht
   exact q t a b homes st _ (((sc.trans (aK.of sa)).trans (aK.of sb)).trans (aK.of st')) (((hpc.same sa).same sb).same st') aD (st' _ _ (sb _ _ aD)) (st' _ _ aD) ⟨by lia,by lia,hb1,hb2,fun y hy=>by rw [(hcp y hy).1]; exact (hcp y hy).2⟩
end
end K12
namespace L2
open PySem PySem.Spec PyProof.Rows
section
variable {X : Cx}
theorem aDm (hu : X.A.units + 2 < cLine) : OpR X (compareOp .Eq) (fun x y H Q=>∃ (p q : Addr) (xs : List V),x = .ref p∧y = .ref q∧SqT X.K H p xs∧SqT X.K H q []∧Q (.bl xs.isEmpty) H):=by
 intro pins s σ H x y v u Q I rx ry h
 obtain ⟨p,q,xs,rfl,rfl,hp,hq,k⟩:=h
 obtain rfl : v = Value.ref p:=rx
 obtain rfl : u = Value.ref q:=ry
 obtain ⟨us,r1,p1,_⟩:=I.tuple hp
 obtain ⟨vs,r2,p2,_⟩:=I.tuple hq
 obtain rfl : vs = []:=r2.nil_iff.mpr rfl
 refine SeqAt.eq_tupleAt (e:=fun _=>true) (show s.heap.IsTuple p us.toArray from p1) (show s.heap.IsTuple q #[] from p2) (by lia) (fun j h1 h2=>absurd h2 (Nat.not_lt_zero _)) ⟨.bl _,H,I,rfl,?_⟩
 have e : (us.toArray.size == (#[] : Array Value).size) = xs.isEmpty:=by
  rw [Bool.eq_iff_iff]
  simp only [List.size_toArray,List.isEmpty_iff]
  rw [← r1.length]
  simp
 rw [tY,e,Bool.true_and]
 exact k
end
section
variable {X : Cx} {es : List Expr} {t : TA} {pos : Pos}
def aCk (t : TA) : TE:=fun σ H Q=>t σ H fun xs H1=>xs.length ≤ sizeLine∧∀ p,H1 p = none→sysModules ≠ p→Q (.ref p) (upd H1 p (.lst xs))
theorem aDn (h : PA X es t) : PE X (.List es pos) (aCk t):=by
 intro pins s σ H Q I hq
 refine wpAny_List_spliced (thn (h pos pins s σ H _ I hq) fun us s1 ⟨xs,H1,I1,r,z,q⟩=>⟨by rw [← r.length]; exact z,?_⟩)
 have hf : H1 s1.heap.objs.size = none:=I1.hok.fresh (Nat.le_refl _)
 refine ⟨.ref s1.heap.objs.size,upd H1 s1.heap.objs.size (.lst xs),I1.laid (t':=s1.toks) (fun b u e=>Heap.get?_push_of_some _ e) (Nat.le_refl _) ?_,rfl,q _ hf (Nat.ne_of_lt I1.big)⟩
 exact ⟨z,us,0,r,Heap.get?_push_size _ rfl⟩
theorem zD : cI X (.type "list") (fun xs H Q=>∃ p ys,xs = [.ref p]∧H p = some (.tup ys)∧∀ l,H l = none→sysModules ≠ l→Q (.ref l) (upd H l (.lst ys))):=by
 intro pins s σ H xs us Q I r h
 obtain ⟨p,ys,rfl,hq,q⟩:=h
 obtain ⟨u,rfl,rx⟩:=r.one
 cases rx
 obtain ⟨its,r',pl,hz⟩:=I.tuple (SqT.of hq)
 have hlen:=r'.length
 obtain ⟨o,ho,hc,n,hd⟩:=pl
 exact call_list_seq p (.inr rfl) ho hc hd (fun h' c' kp e=>⟨.ref s.heap.objs.size,_,I.laid (t':=s.toks) kp (Nat.le_refl _) (show bP X.prog X.w _ h' _ (.lst ys) from ⟨hz,its,c',r',e⟩),rfl,q _ (I.hok.fresh (Nat.le_refl _)) (Nat.ne_of_lt I.big)⟩) (by simp only [List.size_toArray] <;> lia)
end
inductive F2 (R : V→PyData→Prop) : List V→List PyData→Prop where
 | nil : F2 R [] []
 | cons {x : V} {d : PyData} {xs : List V} {ds : List PyData} (h : R x d) (hs : F2 R xs ds) : F2 R (x :: xs) (d :: ds)
theorem F2.mono {R S : V→PyData→Prop} (k : ∀ x d,R x d→S x d) : ∀ {xs : List V} {ds : List PyData},F2 R xs ds→F2 S xs ds
 | _,_,.nil=>.nil
 | _,_,.cons h hs=>.cons (k _ _ h) (F2.mono k hs)
def Atom (L : Addr→Prop) (H : Hp) (x : V) (d : PyData) : Prop :=
 (x = .non∧d = .none)∨(∃ c,x = .bl c∧d = .bool c)∨(∃ i : Int,x = .int i∧d = .int i∧((-1 ≤ i∧i ≤ 33)∨i = 10 ^ 59))∨(∃ z : Str,x = .str z∧d = .str z∧(z = "w" ∨ z = ""))∨(∃ a,x = .ref a∧d = .dict []∧L a∧H a = some (.dK []))
def Sh (L : Addr→Prop) (H : Hp) : Nat→V→PyData→Prop
 | 0=>Atom L H
 | k + 1=>fun x d=>Atom L H x d∨(∃ a xs ds,x = .ref a∧d = .tuple ds∧L a∧H a = some (.tup xs)∧F2 (Sh L H k) xs ds)∨(∃ a xs ds,x = .ref a∧d = .list ds∧L a∧H a = some (.lst xs)∧F2 (Sh L H k) xs ds∧sysModules ≠ a)
def Keep (L : Addr→Prop) (H H' : Hp) : Prop:=∀ a o,L a→H a = some o→(∀ ps,o ≠ .tbl ps)→H' a = some o
theorem Keep.of {L : Addr→Prop} {H H' : Hp} (s : Same H H') : Keep L H H':=fun _ _ _ e _=>s _ _ e
theorem Atom.keep {L : Addr→Prop} {H H' : Hp} {x : V} {d : PyData} (h : Atom L H x d) (k : Keep L H H') : Atom L H' x d:=by
 rcases h with h | h | h | h | ⟨a,e1,e2,l,e3⟩
 ·exact .inl h
 ·exact .inr (.inl h)
 ·exact .inr (.inr (.inl h))
 ·exact .inr (.inr (.inr (.inl h)))
 ·exact .inr (.inr (.inr (.inr ⟨a,e1,e2,l,k a _ l e3 (fun ps z=>by cases z)⟩)))
theorem Sh.keep {L : Addr→Prop} {H H' : Hp} (k : Keep L H H') : ∀ {n : Nat} {x : V} {d : PyData},Sh L H n x d→Sh L H' n x d
 | 0,x,d,h=>Atom.keep h k
 | n + 1,x,d,h=>by
  rcases h with h | ⟨a,xs,ds,e1,e2,l,e3,hs⟩ | ⟨a,xs,ds,e1,e2,l,e3,hs,ns⟩
  ·exact .inl (Atom.keep h k)
  ·exact .inr (.inl ⟨a,xs,ds,e1,e2,l,k a _ l e3 (fun ps z=>by cases z),hs.mono fun x d=>Sh.keep k⟩)
  ·exact .inr (.inr ⟨a,xs,ds,e1,e2,l,k a _ l e3 (fun ps z=>by cases z),hs.mono fun x d=>Sh.keep k,ns⟩)
theorem Sh.up {L : Addr→Prop} {H : Hp} : ∀ {n : Nat} {x : V} {d : PyData},Sh L H n x d→Sh L H (n + 1) x d
 | 0,x,d,h=>.inl h
 | n + 1,x,d,h=>by
  rcases h with h | ⟨a,xs,ds,e1,e2,l,e3,hs⟩ | ⟨a,xs,ds,e1,e2,l,e3,hs,ns⟩
  ·exact .inl h
  ·exact .inr (.inl ⟨a,xs,ds,e1,e2,l,e3,hs.mono fun x d=>Sh.up⟩)
  ·exact .inr (.inr ⟨a,xs,ds,e1,e2,l,e3,hs.mono fun x d=>Sh.up,ns⟩)
theorem Atom.facts {L : Addr→Prop} {H : Hp} {x : V} {d : PyData} (h : Atom L H x d) : d.showable = true∧d.depth ≤ 1∧d.leavesShort 64 = true∧d.weight ≤ 200:=by
 rcases h with ⟨_,rfl⟩ | ⟨c,_,rfl⟩ | ⟨i,_,rfl,h | rfl⟩ | ⟨z,_,rfl,rfl | rfl⟩ | ⟨a,_,rfl,_⟩
 rotate_left
 ·cases c <;> decide +kernel
 ·have all : ∀ n : Nat,n < 35→(PyData.int ((n : Int) - 1)).showable = true∧(PyData.int ((n : Int) - 1)).depth ≤ 1∧(PyData.int ((n : Int) - 1)).leavesShort 64 = true∧(PyData.int ((n : Int) - 1)).weight ≤ 200:=by decide +kernel
  obtain ⟨n,rfl,hn⟩ : ∃ n : Nat,i = (n : Int) - 1∧n < 35:=⟨(i + 1).toNat,by lia,by lia⟩
  exact all n hn
 all_goals decide +kernel
theorem uI {R : V→PyData→Prop} {m : Nat} (hR : ∀ x d,R x d→d.showable = true∧d.depth ≤ m∧d.leavesShort 64 = true) : ∀ {xs : List V} {ds : List PyData},F2 R xs ds→PyData.showableAll ds = true∧PyData.depthAll ds ≤ m∧PyData.leavesShortAll 64 ds = true
 | [],[],.nil=>⟨rfl,by unfold PyData.depthAll; exact Nat.zero_le _,rfl⟩
 | x :: xs,d :: ds,.cons h hs=>by
  obtain ⟨a1,a2,a3⟩:=hR _ _ h
  obtain ⟨b1,b2,b3⟩:=uI hR hs
  refine ⟨?_,?_,?_⟩
  ·unfold PyData.showableAll; rw [a1,b1]; rfl
  ·unfold PyData.depthAll; lia
  ·unfold PyData.leavesShortAll; rw [a3,b3]; rfl
theorem Sh.facts {L : Addr→Prop} {H : Hp} : ∀ {n : Nat} {x : V} {d : PyData},Sh L H n x d→d.showable = true∧d.depth ≤ n + 1∧d.leavesShort 64 = true
 | 0,x,d,h=>let ⟨a,b,c,_⟩:=Atom.facts h; ⟨a,b,c⟩
 | n + 1,x,d,h=>by
  rcases h with h | ⟨a,xs,ds,_,rfl,_,_,hs⟩ | ⟨a,xs,ds,_,rfl,_,_,hs,_⟩
  ·obtain ⟨a1,a2,a3,_⟩:=Atom.facts h
   exact ⟨a1,by lia,a3⟩
  all_goals
   obtain ⟨a1,a2,a3⟩:=uI (fun x d=>Sh.facts) hs
   exact ⟨by unfold PyData.showable; exact a1,by unfold PyData.depth; lia,by unfold PyData.leavesShort; exact a3⟩
section
variable {X : Cx} {pins : List (Addr × Obj)} {σ : St} {H : Hp} {s : Shared} {L : Addr→Prop}
theorem Atom.reads {x : V} {d : PyData} {u : Value} (h : Atom L H x d) (I : Inv X pins σ H s) (r : RelV x u) : ∃ as,Reads s.heap u d as∧sysModules ∉ as:=by
 rcases h with ⟨rfl,rfl⟩ | ⟨c,rfl,rfl⟩ | ⟨i,rfl,rfl,_⟩ | ⟨z,rfl,rfl,_⟩ | ⟨a,rfl,rfl,_,h⟩
 ·obtain rfl : u = Value.none:=r; exact ⟨_,.none,fun h=>nomatch h⟩
 ·obtain rfl : u = Value.bool c:=r; exact ⟨_,.bool c,fun h=>nomatch h⟩
 ·obtain ⟨t,rfl⟩ : ∃ t,u = Value.int i t:=r; exact ⟨_,.int i t,fun h=>nomatch h⟩
 ·obtain ⟨t,rfl⟩ : ∃ t,u = Value.str z t:=r; exact ⟨_,.str _ t,fun h=>nomatch h⟩
 ·obtain rfl : u = Value.ref a:=r
  obtain ⟨_,hs,kvs,hk,o,es,ep,ho,⟨hc,_⟩,hdat,_,hp,_⟩:=I.hok a _ h
  cases hk
  have he : es.toList = []:=by cases hp' : es.toList with
   | nil=>rfl
   | cons x y=>rw [hp'] at hp; cases hp
  exact ⟨_,.dict (kvs:=[]) ho hc hdat (by rw [he]; exact .nil) (by rw [he]; exact .nil),fun z=>by
   have z' : sysModules = a:=by simpa using z
   rw [z'] at hs
   simp at hs⟩
theorem mZ {R : V→PyData→Prop} (hR : ∀ x d u,R x d→RelV x u→∃ as,Reads s.heap u d as∧sysModules ∉ as) : ∀ {xs : List V} {ds : List PyData} {us : List Value},F2 R xs ds→Vals xs us→∃ as,ReadsAll s.heap us ds as∧sysModules ∉ as
 | [],[],_,.nil,.nil=>⟨_,.nil,fun h=>nomatch h⟩
 | x :: xs,d :: ds,_,.cons h hs,.cons r rs=>by
  obtain ⟨as,q1,n1⟩:=hR _ _ _ h r
  obtain ⟨bs,q2,n2⟩:=mZ hR hs rs
  exact ⟨_,.cons q1 q2,fun h=>(List.mem_append.mp h).elim n1 n2⟩
theorem Sh.reads (I : Inv X pins σ H s) : ∀ {n : Nat} {x : V} {d : PyData} {u : Value},Sh L H n x d→RelV x u→∃ as,Reads s.heap u d as∧sysModules ∉ as
 | 0,x,d,u,h,r=>Atom.reads h I r
 | n + 1,x,d,u,h,r=>by
  rcases h with h | ⟨a,xs,ds,rfl,rfl,_,h,hs⟩ | ⟨a,xs,ds,rfl,rfl,_,h,hs,ns⟩
  ·exact Atom.reads h I r
  ·obtain rfl : u = Value.ref a:=r
   obtain ⟨its,r,⟨o,ho,hc,k,hdat⟩,_⟩:=I.tuple (SqT.of h)
   obtain ⟨as,q,nn⟩:=mZ (fun x d u h r=>Sh.reads I h r) hs r
   exact ⟨_,.tuple ho hc hdat (by simpa using q),nn⟩
  ·obtain rfl : u = Value.ref a:=r
   obtain ⟨its,r,⟨o,k,ho,hc,_,hdat⟩,_⟩:=I.list (SqL.of h)
   obtain ⟨as,q,nn⟩:=mZ (fun x d u h r=>Sh.reads I h r) hs r
   exact ⟨_,.list ho hc hdat (by simpa using q),fun z=>(List.mem_cons.mp z).elim ns nn⟩
end
theorem Sh.repr {X : Cx} {H : Hp} {L : Addr→Prop} {n : Nat} {x : V} {d : PyData} (hn : n ≤ 3) (h : Sh L H n x d) (hw : d.weight ≤ 20000) : rQ X H x d:=by
 obtain ⟨a1,a2,a3⟩:=h.facts
 have fit : d.shown.length ≤ sizeLine:=Nat.le_trans (PyData.shown_le 64 (by decide) d a3) (Nat.le_trans (show (64 + 2) * d.weight + 64 ≤ 5000000 by lia) (by decide))
 have sh : ∀ p,x = .ref p→rQ X H x d:=fun p e=>by
  subst e
  refine .inl ⟨p,rfl,fun pins σ s I=>?_,a1,by lia,fit⟩
  obtain ⟨as,q,n⟩:=h.reads I (u:=.ref p) rfl
  exact ⟨as,q,fun _=>n⟩
 have at_ : Atom L H x d→rQ X H x d:=fun h=>by
  rcases id h with ⟨rfl,rfl⟩ | ⟨c,rfl,rfl⟩ | ⟨i,rfl,rfl,_⟩ | ⟨z,rfl,rfl,hz⟩ | ⟨a,e,_⟩
  ·exact .inr (.inl ⟨rfl,rfl⟩)
  ·exact .inr (.inr (.inl ⟨c,rfl,rfl⟩))
  ·refine .inr (.inr (.inr (.inl ⟨i,rfl,rfl,?_⟩)))
   have e : (PyData.int i).showable = decide (i.natAbs.log2 < 1920):=rfl
   rw [e] at a1
   exact of_decide_eq_true a1
  ·refine .inr (.inr (.inr (.inr ⟨z,rfl,rfl,?_⟩)))
   rcases hz with rfl | rfl <;> decide +kernel
  ·exact sh a e
 match n,h with
 | 0,h=>exact at_ h
 | n + 1,h =>
  rcases h with h | ⟨a,_,_,e,_⟩ | ⟨a,_,_,e,_⟩
  ·exact at_ h
  ·exact sh a e
  ·exact sh a e
def Sw (L : Addr→Prop) (H : Hp) (n W : Nat) (x : V) : Prop:=∃ d,Sh L H n x d∧d.weight ≤ W
section
variable {L : Addr→Prop} {H H' : Hp} {n W : Nat} {x : V}
theorem Sw.keep (h : Sw L H n W x) (k : Keep L H H') : Sw L H' n W x:=let ⟨d,a,b⟩:=h; ⟨d,a.keep k,b⟩
theorem Sw.up (h : Sw L H n W x) : Sw L H (n + 1) W x:=let ⟨d,a,b⟩:=h; ⟨d,a.up,b⟩
theorem Sw.le {V : Nat} (h : Sw L H n W x) (l : W ≤ V) : Sw L H n V x:=let ⟨d,a,b⟩:=h; ⟨d,a,Nat.le_trans b l⟩
theorem jG {d : PyData} (h : Atom L H x d) : ∀ {n : Nat},Sw L H n 200 x
 | 0=>⟨d,h,(Atom.facts h).2.2.2⟩
 | _ + 1=>⟨d,.inl h,(Atom.facts h).2.2.2⟩
theorem f2_w {R : V→PyData→Prop} {xs : List V} (hR : ∀ x∈xs,∃ d,R x d∧d.weight ≤ W) : ∃ ds,F2 R xs ds∧PyData.weightAll ds ≤ xs.length * (W + 1):=by
 induction xs with
 | nil=>exact ⟨[],.nil,by unfold PyData.weightAll; exact Nat.zero_le _⟩
 | cons x xs ih =>
  obtain ⟨d,h1,h2⟩:=hR x List.mem_cons_self
  obtain ⟨ds,g1,g2⟩:=ih fun y hy=>hR y (List.mem_cons_of_mem _ hy)
  exact ⟨d :: ds,.cons h1 g1,by unfold PyData.weightAll; rw [List.length_cons,Nat.succ_mul]; lia⟩
theorem oP {a : Addr} {xs : List V} (l : L a) (h : H a = some (.tup xs)) (hs : ∀ x∈xs,Sw L H n W x) : Sw L H (n + 1) (xs.length * (W + 1)) (.ref a) :=
 let ⟨ds,hs,hw⟩:=f2_w hs; ⟨_,.inr (.inl ⟨a,xs,ds,rfl,rfl,l,h,hs⟩),by unfold PyData.weight; exact hw⟩
theorem aA1 {a : Addr} {xs : List V} (l : L a) (ns : sysModules ≠ a) (h : H a = some (.lst xs)) (hs : ∀ x∈xs,Sw L H n W x) : Sw L H (n + 1) (xs.length * (W + 1)) (.ref a) :=
 let ⟨ds,hs,hw⟩:=f2_w hs; ⟨_,.inr (.inr ⟨a,xs,ds,rfl,rfl,l,h,hs,ns⟩),by unfold PyData.weight; exact hw⟩
theorem eH {i : Int} (h : (-1 ≤ i∧i ≤ 33)∨i = 10 ^ 59) : Sw L H n 200 (.int i):=jG (.inr (.inr (.inl ⟨i,rfl,rfl,h⟩)))
theorem oQ : Sw L H n 200 .non:=jG (.inl ⟨rfl,rfl⟩)
theorem aA2 {z : Str} (h : z = "w" ∨ z = "") : Sw L H n 200 (.str z):=jG (.inr (.inr (.inr (.inl ⟨z,rfl,rfl,h⟩))))
theorem aEJ {b : Bool} : Sw L H n 200 (.bl b):=jG (.inr (.inl ⟨b,rfl,rfl⟩))
theorem aD8 {a : Addr} (l : L a) (h : H a = some (.dK [])) : Sw L H n 200 (.ref a):=jG (.inr (.inr (.inr (.inr ⟨a,rfl,rfl,l,h⟩))))
end
end L2
namespace K12
open PySem L2 NetM
abbrev Ent:=Option (Option Int)
inductive En (K : PySem.W.Frag) (H : Hp) : V→Ent→Prop where
 | non : En K H .non none
 | th {x : V} {o : Option Int} (h : x ≠ .non) (w : Wh K H x o) : En K H x (some o)
def Ens (K : PySem.W.Frag) (H : Hp) (xs : List V) (es : List Ent) : Prop:=xs.length = es.length∧∀ i,i < es.length→En K H (xs.getD i .non) (es.getD i none)
inductive Th (K : PySem.W.Frag) (H : Hp) : V→Option (List Ent)→Prop where
 | tup {p : Addr} {xs : List V} {es : List Ent} (h : H p = some (.tup xs)) (e : Ens K H xs es) : Th K H (.ref p) (some es)
 | no {x : V} {t : Value} (ty : TyX K H x t) (h : PySem.W.kitOne K t (.type "tuple") = some false) : Th K H x none
section
variable {K : PySem.W.Frag}
theorem lW {H : Hp} {x : V} {t : Value} (ty : TyX K H x t) (h : PySem.W.kitOne K t (.type "int") = some false∨(PySem.W.kitOne K t (.type "int") = some true∧PySem.W.kitOne K t (.type "bool") = some true)) : Wh K H x none:=.no ⟨t,ty,h⟩
theorem _root_.L2.Sh.en {L : Addr→Prop} {H : Hp} {n : Nat} {x : V} {d : PyData} (h : Sh L H n x d) : ∃ e,∀ H',Keep L H H'→En K H' x e:=by
 have at_ : Atom L H x d→∃ e,∀ H',Keep L H H'→En K H' x e:=fun h=>by
  rcases h with ⟨rfl,_⟩ | ⟨c,rfl,_⟩ | ⟨i,rfl,_⟩ | ⟨z,rfl,_⟩ | ⟨a,rfl,_,l,h⟩
  ·exact ⟨none,fun H' _=>.non⟩
  ·exact ⟨some none,fun H' _=>.th (fun z=>by cases z) (lW (.of (.bl _)) (.inr ⟨by kernel_rfl,by kernel_rfl⟩))⟩
  ·exact ⟨some (some i),fun H' _=>.th (fun z=>by cases z) (.int i)⟩
  ·exact ⟨some none,fun H' _=>.th (fun z=>by cases z) (lW (.of (.str _)) (.inl (by kernel_rfl)))⟩
  ·exact ⟨some none,fun H' k=>.th (fun z=>by cases z) (lW (.of (.dK (k a _ l h (fun ps z=>by cases z)))) (.inl (by kernel_rfl)))⟩
 match n,h with
 | 0,h=>exact at_ h
 | n + 1,h =>
  rcases h with h | ⟨a,xs,ds,rfl,_,l,h,_⟩ | ⟨a,xs,ds,rfl,_,l,h,_⟩
  ·exact at_ h
  ·exact ⟨some none,fun H' k=>.th (fun z=>by cases z) (lW (.of (.tup (k a _ l h (fun ps z=>by cases z)))) (.inl (by kernel_rfl)))⟩
  ·exact ⟨some none,fun H' k=>.th (fun z=>by cases z) (lW (.of (.lst (k a _ l h (fun ps z=>by cases z)))) (.inl (by kernel_rfl)))⟩
theorem aA3 {L : Addr→Prop} {H : Hp} {n : Nat} : ∀ {xs : List V} {ds : List PyData},F2 (Sh L H n) xs ds→∃ es : List Ent,∀ H',Keep L H H'→Ens K H' xs es
 | [],[],.nil=>⟨[],fun H' _=>⟨rfl,fun i hi=>(nomatch hi)⟩⟩
 | x :: xs,d :: ds,.cons h hs=>by
  obtain ⟨e,he⟩:=h.en (K:=K)
  obtain ⟨es,hes⟩:=aA3 hs
  refine ⟨e :: es,fun H' k=>⟨by rw [List.length_cons,List.length_cons,(hes H' k).1],fun i hi=>?_⟩⟩
  cases i with
  | zero=>exact he H' k
  | succ i=>exact (hes H' k).2 i (Nat.lt_of_succ_lt_succ hi)
theorem _root_.L2.Sh.th {L : Addr→Prop} {H : Hp} {n : Nat} {x : V} {d : PyData} (h : Sh L H n x d) : ∃ o,∀ H',Keep L H H'→Th K H' x o:=by
 have at_ : Atom L H x d→∃ o,∀ H',Keep L H H'→Th K H' x o:=fun h=>by
  rcases h with ⟨rfl,_⟩ | ⟨c,rfl,_⟩ | ⟨i,rfl,_⟩ | ⟨z,rfl,_⟩ | ⟨a,rfl,_,l,h⟩
  ·exact ⟨none,fun H' _=>.no (.of .non) (by kernel_rfl)⟩
  ·exact ⟨none,fun H' _=>.no (.of (.bl _)) (by kernel_rfl)⟩
  ·exact ⟨none,fun H' _=>.no (.of (.int _)) (by kernel_rfl)⟩
  ·exact ⟨none,fun H' _=>.no (.of (.str _)) (by kernel_rfl)⟩
  ·exact ⟨none,fun H' k=>.no (.of (.dK (k a _ l h (fun ps z=>by cases z)))) (by kernel_rfl)⟩
 match n,h with
 | 0,h=>exact at_ h
 | n + 1,h =>
  rcases h with h | ⟨a,xs,ds,rfl,_,l,h,hs⟩ | ⟨a,xs,ds,rfl,_,l,h,_⟩
  ·exact at_ h
  ·obtain ⟨es,hes⟩:=aA3 (K:=K) hs
   exact ⟨some es,fun H' k=>.tup (k a _ l h (fun ps z=>by cases z)) (hes H' k)⟩
  ·exact ⟨none,fun H' k=>.no (.of (.lst (k a _ l h (fun ps z=>by cases z)))) (by kernel_rfl)⟩
end
end K12
namespace K12
open PySem L2 NetM
abbrev sWol : Stmt:=top 13
abbrev uJ : Stmt:=top 12
theorem nout (n : Int) (tl ol ds : Addr) : (flds n tl ol ds).lookup ("out" : Str) = none:=wS n tl ol ds (by decide +kernel) (by decide +kernel) (by decide +kernel) (by decide +kernel)
theorem wX {xs : List Nat} : (NV xs).all cS = true:=List.all_eq_true.mpr fun x hx=>by obtain ⟨y,_,rfl⟩:=List.mem_map.mp hx; rfl
abbrev Res:=Option (Str × List Nat)
def gO (n : Nat) (ts : Ts) (h : Nat) : Ent→Bool
 | some (some i)=>inV (.int i) (NV (outN n ts h))
 | _=>false
def alB (st : List (Option Nat)) (es : List Ent) (i h j : Nat) : Bool:=decide (st.getD j none = some h) && decide (es.getD j none = es.getD i none)
def wrE (n : Nat) (ts : Ts) (st : List (Option Nat)) (es : List Ent) (i : Nat) : Res:=match st.getD i none with
 | none=>if es.getD i none = none then none else some ("none",[i])
 | some h=>if gO n ts h (es.getD i none) = true then ((List.range i).find? (alB st es i h)).map fun j=>("twice",[j,i]) else some ("tie",[i])
def wrB (n : Nat) (ts : Ts) (st : List (Option Nat)) : Option (List Ent)→Res
 | none=>some ("row",[])
 | some es=>if es.length = st.length then (List.range st.length).findSome? (wrE n ts st es) else some ("row",[])
def RsV (H : Hp) : Res→V→Prop
 | none,r=>r = .non
 | some (s,l),r=>∃ a,r = .ref a∧H a = some (.tup (.str s :: NV l))
theorem RsV.same {H H' : Hp} {o : Res} {r : V} (h : RsV H o r) (s : Same H H') : RsV H' o r:=by
 cases o with
 | none=>exact h
 | some q=>obtain ⟨a,e,g⟩:=h; exact ⟨a,e,s _ _ g⟩
theorem pW {α : Type} {f : Nat→Option α} {n : Nat} (h : ∀ j,j < n→f j = none) : (List.range n).findSome? f = none:=List.findSome?_eq_none_iff.mpr fun j hj=>h j (List.mem_range.mp hj)
theorem pX {α : Type} {f : Nat→Option α} {i : Nat} {r : α} (h : f i = some r) (hb : ∀ j,j < i→f j = none) : ∀ {n : Nat},i < n→(List.range n).findSome? f = some r
 | 0,hi=>absurd hi (Nat.not_lt_zero _)
 | n + 1,hi=>by
  rw [List.range_succ,List.findSome?_append]
  by_cases c : i < n
  ·rw [pX h hb c]; rfl
  ·obtain rfl : i = n:=by lia
   rw [pW hb]
   simp [h]
theorem wY {n : Nat} {ts : Ts} {st : List (Option Nat)} {es : List Ent} {j h : Nat} (hw : wrE n ts st es j = none) (hj : st.getD j none = some h) : ∃ z,es.getD j none = some (some z):=by
 unfold wrE at hw
 rw [hj] at hw
 by_cases c : gO n ts h (es.getD j none) = true
 ·match e : es.getD j none with
  | none=>rw [e] at c; cases c
  | some none=>rw [e] at c; cases c
  | some (some z)=>exact ⟨z,rfl⟩
 ·dsimp only at hw
  rw [if_neg c] at hw; cases hw
theorem gQ {st : List (Option Nat)} {i : Nat} (h : i < st.length) : (st.map oV)[i]? = some (oV (st.getD i none)):=by
 rw [List.getElem?_map,List.getD_eq_getElem?_getD,List.getElem?_eq_getElem h]; rfl
theorem lX {xs : List V} {i : Nat} (h : i < xs.length) : xs[i]? = some (xs.getD i .non):=by
 rw [List.getD_eq_getElem?_getD,List.getElem?_eq_getElem h]; rfl
theorem aA4 {o : Option Nat} {h : Nat} : scal (oV o) (.int (h : Int)) = true:=by cases o <;> rfl
theorem aCl {o : Option Nat} {h : Nat} : decide (oV o = V.int (h : Int)) = decide (o = some h):=by
 cases o with
 | none=>exact decide_eq_decide.mpr ⟨(fun z=>by cases z),(fun z=>by cases z)⟩
 | some y=>exact decide_eq_decide.mpr ⟨(fun z=>by injection z with z; exact congrArg some (Int.ofNat.inj z)),(fun z=>by cases z; rfl)⟩
theorem wh_i {K : PySem.W.Frag} {H : Hp} {x : V} {i : Int} (h : Wh K H x (some i)) : x = .int i:=by cases h; rfl
theorem en_i {K : PySem.W.Frag} {H : Hp} {x : V} {i : Int} (h : En K H x (some (some i))) : x = .int i:=by
 cases h with
 | th _ w=>exact wh_i w
section
variable {P : Program} {w : World} {K : PySem.W.Frag} {mg : Str→Option Value} {base : Heap}
theorem Th.row {H : Hp} {x : V} {o : Option (List Ent)} (h : Th K H x o) : ∃ o',Rw K H x o'∧∀ m,aCe o' m = match o with | none=>false | some es=>decide (((es.length : Nat) : Int) = m):=by
 cases h with
 | @tup p xs es h e=>exact ⟨some xs,.tup h,fun m=>by show decide (((xs.length : Nat) : Int) = m) = _; rw [e.1]⟩
 | no ty h=>exact ⟨none,.no ty h,fun m=>rfl⟩
theorem En.wh {H : Hp} {x : V} {e : Ent} (h : En K H x e) : Wh K H x e.join:=by
 cases h with
 | non=>exact lW (.of .non) (.inl (by kernel_rfl))
 | th _ w=>exact w
theorem rS : aZ ["net", "stand", "row", "letter", "house", "goes", "ahead"] ["net", "stand", "row", "letter"] (aM sWol):=⟨rfl,rfl,rfl,by decide +kernel,rfl,by decide +kernel,by decide +kernel⟩
def zE (K : PySem.W.Frag) (C : Addr) : Sp:=fun vs H Q _=>∃ (L : Addr→Prop) (p : Addr) (n : Nat) (ts : Ts) (sa : Addr) (st : List (Option Nat)) (a : Addr) (xs : List V) (es : List Ent) (i : Nat),vs = [.ref p,.ref sa,.ref a,.int i]∧fL C H L p n ts∧H sa = some (.tup (st.map oV))∧st.length ≤ 16∧(∀ y,some y∈st→y < n)∧H a = some (.tup xs)∧(∀ H',Same H H'→Ens K H' xs es)∧es.length = st.length∧i < st.length∧(∀ j,j < i→wrE n ts st es j = none)∧∀ r H',Same H H'→RsV H' (wrE n ts st es i) r→Q r H'
theorem aD9 {f C : Addr} {fd : FuncData} (F : Fun K "wrong_of_letter" "wrong_of_letter" sWol f fd) (B : Bl mg) (T : NT K mg C) (IW : Cal P w K mg base CX0 1 "is_whole" ["thing"] (lP K)) (MO : MCal P w K mg base CX0 5 C "out" ["self", "house"] (tU C)) : FnOk P w K mg base CX0 6 f fd ["net", "stand", "row", "letter"] (zE K C):=by
 obtain ⟨fO,fdO,mO,bO,GO⟩:=MO.ex
 refine F.ok rS (fun vs H Q E h=>?_) (fun cdv A outer s H vs Q E hr h=>?_)
 ·obtain ⟨L,p,n,ts,sa,st,a,xs,es,i,rfl,_⟩:=h
  rfl
 ·obtain ⟨L,p,n,ts,sa,st,a,xs,es,i,rfl,N,hsa,sl,hss,ha,hE,el,hi,hw,q⟩:=h
  have h1 : Room 1 _:=hr.mono (by decide)
  refine ⟨_,(aE (aS (i:=4) rS.nd rfl (Or.inl rfl) (aX cD (pv 1) (pv 3) (fun _ _=>rfl)))
   (aE (aS (i:=5) rS.nd rfl (Or.inl rfl) (aX cD (pv 2) (pv 3) (fun _ _=>rfl)))
   (aE (bG (aQ nF (pv 4) cB (aV _)) (aG (aU (aBe (aQ nF (pv 5) cB (aV _)) cB (bA (aA eS (aA (pv 3) aB)))))) aW)
   (aE (bG (PW.pt (nC (eC (cU (aO IW h1 aR (aA (pv 5) aB)))) (jV (aQ sB (pv 5) (vO (pv 0) T.cl mO GO hr bO .nil aR (aA (pv 4) aB)) rfl)))) (aG (aU (bA (aA eS (aA (pv 3) aB))))) aW)
   (aE (cA PassesOwn.never rfl (bH rfl B.range (aA (pv 3) aB)) (aL (i:=6) rS.nd rfl (Or.inl rfl))
    (aG (bG (PW.pt (eT (aQ cP (aX cD (pv 1) (pv 6) (fun _ _=>rfl)) (pv 4) (aV _)) (eJ (aQ cP (aX cD (pv 2) (pv 6) (fun _ _=>rfl)) (pv 5) (aV _))))) (aG (aU (bA (aA eS (aA (pv 6) (aA (pv 3) aB)))))) aW)))
   (aG (aU cB))))))),?_⟩
  have E0':=hE H (Same.refl _)
  have xl : xs.length = st.length:=by rw [E0'.1]; exact el
  have e1:=E0'.2 i (by lia)
  refine ⟨_,rfl,_,rfl,sa,_,_,_,rfl,rfl,SqT.of hsa,aP (gQ hi),?_⟩
  refine ⟨_,rfl,_,rfl,a,_,_,_,rfl,rfl,SqT.of ha,aP (lX (by lia)),?_⟩
  generalize hx : xs.getD i .non = x at *
  cases ho : st.getD i none with
  | none =>
   have we : wrE n ts st es i = if es.getD i none = none then none else some (("none" : Str),[i]):=by unfold wrE; rw [ho]
   refine ⟨_,rfl,rfl,_,rfl,iteT ⟨_,rfl,rfl,_,rfl,?_⟩⟩
   generalize es.getD i none = e at *
   cases e1 with
   | non=>exact iteT (q _ _ (Same.refl _) (by rw [we]; rfl))
   | th hn w =>
    refine iL (by simp [hn]) ⟨_,rfl,by show 2 ≤ sizeLine; decide,fun t ht=>q _ _ (aF ht) ?_⟩
    rw [we,if_neg (by simp)]
    exact ⟨t,rfl,aD⟩
  | some h =>
   have hh : h < n:=hss h (by rw [← ho,List.getD_eq_getElem?_getD,List.getElem?_eq_getElem hi]; exact List.getElem_mem _)
   have we : wrE n ts st es i = if gO n ts h (es.getD i none) = true then ((List.range i).find? (alB st es i h)).map (fun j=>(("twice" : Str),[j,i])) else some (("tie" : Str),[i]):=by unfold wrE; rw [ho]
   have tie : ∀ H',Same H H'→gO n ts h (es.getD i none) = false→tRet (tTup (bE (tC (.str "tie")) (bE (tVar 3) tNil))) { nx:=fun _ H'=>Q .non H',rt:=Q } [some (.ref p),some (.ref sa),some (.ref a),some (.int i),some (.int (h : Int)),some x,none] H':=fun H' s' hb=>by
    refine ⟨_,rfl,by show 2 ≤ sizeLine; decide,fun t ht=>q _ _ (s'.trans (aF ht)) ?_⟩
    rw [we,if_neg (by rw [hb]; decide)]
    exact ⟨t,rfl,aD⟩
   refine ⟨_,rfl,rfl,_,rfl,iL rfl ?_⟩
   refine ⟨_,rfl,x,_,rfl,e1.wh,_,rfl,?_⟩
   match ee : es.getD i none with
   | none=>exact iteT (iteT (tie H (Same.refl _) (by rw [ee]; rfl)))
   | some none=>exact iteT (iteT (tie H (Same.refl _) (by rw [ee]; rfl)))
   | some (some z) =>
   rw [ee] at e1
   obtain rfl:=en_i e1
   obtain ⟨dx,tl,ol,ds,hN,_⟩:=N.ob
   refine iteF ⟨_,rfl,_,rfl,p,dx,_,rfl,hN,nout _ _ _ _,_,rfl,L,p,n,ts,h,rfl,N,hh,fun r H4 s4 hr4 hr4'=>⟨r,_,rfl,.inl (SqL.of hr4'),rfl,wX,_,rfl,?_⟩⟩
   cases hin : inV (.int z) (NV (outN n ts h)) with
   | false=>exact iteT (tie H4 s4 (by rw [ee]; exact hin))
   | true =>
   refine iteF ?_
   refine ⟨_,rfl,_,rfl,by lia,by lia,?_⟩
   refine bY (n:=i) (lo:=0) (fun k σ Hc=>(∃ b,σ = [some (.ref p),some (.ref sa),some (.ref a),some (.int i),some (.int (h : Int)),some (.int z),b])∧Same H Hc∧∀ j,j < k→alB st es i h j = false) ⟨⟨_,rfl⟩,s4,fun j hj=>absurd hj (Nat.not_lt_zero _)⟩ ?_ ?_
   ·rintro k σ Hc hk ⟨⟨b,rfl⟩,sc,hal⟩
    rw [Int.zero_add]
    refine ⟨_,rfl,_,rfl,sa,_,_,_,rfl,rfl,SqT.of (sc _ _ hsa),aP (gQ (by lia)),_,rfl,aA4,_,rfl,?_⟩
    rw [aCl]
    have nxt : alB st es i h k = false→(∃ b,[some (V.ref p),some (.ref sa),some (.ref a),some (.int i),some (.int (h : Int)),some (.int z),some (.int (k : Int))] = [some (.ref p),some (.ref sa),some (.ref a),some (.int i),some (.int (h : Int)),some (.int z),b])∧Same H Hc∧∀ j,j < k + 1→alB st es i h j = false:=fun hf=>⟨⟨_,rfl⟩,sc,fun j hj=>by
     by_cases c : j < k
     ·exact hal j c
     ·obtain rfl : j = k:=by lia
      exact hf⟩
    by_cases c : st.getD k none = some h
    ·rw [decide_eq_true c]
     obtain ⟨z2,ez⟩:=wY (hw k hk) c
     have ex : xs.getD k .non = .int z2:=en_i (by have:=(hE Hc sc).2 k (by lia); rw [ez] at this; exact this)
     refine iteT ⟨_,rfl,_,rfl,a,_,_,_,rfl,rfl,SqT.of (sc _ _ ha),aP (by rw [lX (by lia),ex]),_,rfl,rfl,_,rfl,?_⟩
     have ea : alB st es i h k = decide (V.int z2 = V.int z):=by
      unfold alB
      rw [decide_eq_true c,Bool.true_and,ez,ee]
      exact decide_eq_decide.mpr ⟨(fun y=>by cases y; rfl),(fun y=>by cases y; rfl)⟩
     rw [← ea]
     cases hk2 : alB st es i h k with
     | false=>exact iteF (nxt hk2)
     | true =>
      refine iteT ⟨_,rfl,_,rfl,by show 3 ≤ sizeLine; decide,fun t ht=>q _ _ (sc.trans (aF ht)) ?_⟩
      rw [we,if_pos (by rw [ee]; exact hin),List.find?_range_eq_some.mpr ⟨hk2,List.mem_range.mpr hk,fun j hj=>by rw [hal j hj]; rfl⟩]
      exact ⟨t,rfl,aD⟩
    ·rw [decide_eq_false c]
     exact iteF (iteF (nxt (by unfold alB; rw [decide_eq_false c]; rfl)))
   ·rintro σ Hc ⟨⟨b,rfl⟩,sc,hal⟩
    refine q _ _ sc ?_
    rw [we,if_pos (by rw [ee]; exact hin),List.find?_range_eq_none.mpr fun j hj=>by rw [hal j hj]; rfl]
    rfl
theorem pY : aZ ["net", "homes", "stand", "thing", "letter", "fault"] ["net", "homes", "stand", "thing"] (aM uJ):=⟨rfl,rfl,rfl,by decide +kernel,rfl,by decide +kernel,by decide +kernel⟩
def pZ (K : PySem.W.Frag) (C : Addr) : Sp:=fun vs H Q _=>∃ (L : Addr→Prop) (p : Addr) (n : Nat) (ts : Ts) (ha : Addr) (homes : List Nat) (sa : Addr) (st : List (Option Nat)) (x : V) (o : Option (List Ent)),vs = [.ref p,.ref ha,.ref sa,x]∧fL C H L p n ts∧H ha = some (.tup (NV homes))∧homes.length = st.length∧H sa = some (.tup (st.map oV))∧st.length ≤ 16∧(∀ y,some y∈st→y < n)∧(∀ H',Same H H'→Th K H' x o)∧∀ r H',Same H H'→RsV H' (wrB n ts st o) r→Q r H'
theorem aBZ {f C : Addr} {fd : FuncData} (F : Fun K "wrong" "wrong" uJ f fd) (B : Bl mg) (RW : Cal P w K mg base CX0 1 "is_row" ["thing", "length"] (rN K)) (WL : Cal P w K mg base CX0 6 "wrong_of_letter" ["net", "stand", "row", "letter"] (zE K C)) : FnOk P w K mg base CX0 7 f fd ["net", "homes", "stand", "thing"] (pZ K C):=by
 refine F.ok pY (fun vs H Q E h=>?_) (fun cdv A outer s H vs Q E hr h=>?_)
 ·obtain ⟨L,p,n,ts,ha,homes,sa,st,x,o,rfl,_⟩:=h
  rfl
 ·obtain ⟨L,p,n,ts,ha,homes,sa,st,x,o,rfl,N,hha,hl,hsa,sl,hss,hx,q⟩:=h
  have h1 : Room 1 _:=hr.mono (by decide)
  refine ⟨_,(aE (bG (eC (cU (aO RW h1 aR (aA (pv 3) (aA (aN aT (by rfl) B.len PySem.boot_len (aA (pv 1) aB)) aB))))) (aG (aU (bA (aA eS aB)))) aW)
   (aE (cA PassesOwn.never rfl (bH rfl B.range (aA (aN aT (by rfl) B.len PySem.boot_len (aA (pv 1) aB)) aB)) (aL (i:=4) pY.nd rfl (Or.inl rfl))
    (aE (aS (i:=5) pY.nd rfl (Or.inl rfl) (aO WL hr aR (aA (pv 0) (aA (pv 2) (aA (pv 3) (aA (pv 4) aB))))))
    (aG (bG (aQ iV (pv 5) cB (aV _)) (aG (aU (pv 5))) aW))))
   (aG (aU cB)))),?_⟩
  have hx0:=hx H (Same.refl _)
  obtain ⟨o',Rx,eR⟩:=hx0.row
  refine ⟨_,rfl,_,rfl,ha,_,rfl,.inr (SqT.of hha),x,o',_,rfl,Rx,_,rfl,?_⟩
  rw [eR,bD,hl]
  have row : wrB n ts st o = some (("row" : Str),[])→tRet (tTup (bE (tC (.str "row")) tNil)) { nx:=fun _ H'=>Q .non H',rt:=Q } [some (.ref p),some (.ref ha),some (.ref sa),some x,none,none] H:=fun hb=>by
   refine ⟨by show 1 ≤ sizeLine; decide,fun t ht=>q _ _ (aF ht) ?_⟩
   rw [hb]
   exact ⟨t,rfl,aD⟩
  cases hx0 with
  | no ty h=>exact iteT (row rfl)
  | @tup a xs es hxs en =>
  by_cases el : es.length = st.length
  rotate_left
  ·exact fN (by simp; lia) (row (by show (if es.length = st.length then _ else _) = _; rw [if_neg el]))
  have wb : wrB n ts st (some es) = (List.range st.length).findSome? (wrE n ts st es):=by show (if es.length = st.length then _ else _) = _; rw [if_pos el]
  have enH : ∀ H',Same H H'→Ens K H' xs es:=fun H' s=>by
   have:=hx H' s
   cases this with
   | @tup _ xs' _ h' e' =>
    have:=s _ _ hxs
    rw [this] at h'; cases h'
    exact e'
  refine iL (by simp; lia) ?_
  refine ⟨_,rfl,ha,_,rfl,.inr (SqT.of hha),_,rfl,by lia,by rw [bD]; lia,?_⟩
  rw [bD,hl]
  refine bY (n:=st.length) (lo:=0) (fun k σ Hc=>(∃ u v,σ = [some (.ref p),some (.ref ha),some (.ref sa),some (.ref a),u,v])∧Same H Hc∧∀ j,j < k→wrE n ts st es j = none) ⟨⟨_,_,rfl⟩,Same.refl _,fun j hj=>absurd hj (Nat.not_lt_zero _)⟩ ?_ ?_
  ·rintro k σ Hc hk ⟨⟨u,v,rfl⟩,sc,hal⟩
   rw [Int.zero_add]
   refine ⟨_,rfl,_,rfl,_,rfl,_,rfl,L,p,n,ts,sa,st,a,xs,es,k,rfl,N.same sc,sc _ _ hsa,sl,hss,sc _ _ hxs,fun H' s'=>enH H' (sc.trans s'),el,hk,hal,fun r H2 s2 hr2=>?_⟩
   cases hw : wrE n ts st es k with
   | none =>
    rw [hw] at hr2
    obtain rfl : r = .non:=hr2
    refine ⟨_,rfl,rfl,_,rfl,iteF ⟨⟨_,_,rfl⟩,sc.trans s2,fun j hj=>?_⟩⟩
    by_cases c : j < k
    ·exact hal j c
    ·obtain rfl : j = k:=by lia
     exact hw
   | some rs =>
    have hb : wrB n ts st (some es) = some rs:=by rw [wb]; exact pX hw hal hk
    have k2:=q r H2 (sc.trans s2) (by rw [hb,← hw]; exact hr2)
    rw [hw] at hr2
    obtain ⟨b,rfl,_⟩:=hr2
    exact ⟨_,rfl,rfl,_,rfl,fN rfl ⟨_,rfl,k2⟩⟩
  ·rintro σ Hc ⟨⟨u,v,rfl⟩,sc,hal⟩
   exact q _ _ sc (by rw [wb,pW hal]; rfl)
end
end K12
namespace K12
open PySem L2 NetM
abbrev zF : Stmt:=top 43
abbrev qA : Stmt:=top 44
theorem iI : (["_law_j", "_law_stand_here", "_law_i", "_law_thing"] : List Str).Nodup:=by decide +kernel
theorem bT.same {H H' : Hp} {L : Addr→Prop} {l : Addr} {n : Nat} {r : Nat→List Nat} (R : bT H L l n r) (s : Same H H') : bT H' L l n r :=
 let ⟨bs,a,b,c⟩:=R
 ⟨bs,s _ _ a,b,c.mono fun j _ e=>s _ _ e⟩
theorem rT {bs : List Addr} {h : Nat} (hh : h < bs.length) : (bs.map V.ref)[h]? = some (.ref (bs.getD h 0)):=by
 rw [List.getElem?_map,List.getD_eq_getElem?_getD,List.getElem?_eq_getElem hh]; rfl
theorem aA5 {n : Nat} {ts : Ts} {h : Nat} : ∀ e : Ent,gO n ts h (some e.join) = gO n ts h e
 | none=>rfl
 | some _=>rfl
section
variable {P : Program} {w : World} {K : PySem.W.Frag} {mg : Str→Option Value} {base : Heap}
theorem aEa : aZ ["_law_n", "_law_outs_here", "_law_house", "_law_thing"] ["_law_n", "_law_outs_here", "_law_house", "_law_thing"] (aM zF):=⟨rfl,rfl,rfl,by decide +kernel,rfl,by decide +kernel,by decide +kernel⟩
def uK (K : PySem.W.Frag) : Sp:=fun vs H Q _=>∃ (n : Nat) (r : Addr) (ts : Ts) (L : Addr→Prop) (h : Nat) (x : V) (o : Option Int),vs = [.int n,.ref r,.int h,x]∧bT H L r n (outN n ts)∧h < n∧Wh K H x o∧Q (.bl (gO n ts h (some o))) H
theorem aDo {f : Addr} {fd : FuncData} (F : Fun K "_law_is_step" "_law_is_step" zF f fd) (B : Bl mg) : FnOk P w K mg base CX0 1 f fd ["_law_n", "_law_outs_here", "_law_house", "_law_thing"] (uK K):=by
 refine F.ok aEa (fun vs H Q E h=>?_) (fun cdv A outer s H vs Q E hr h=>?_)
 ·obtain ⟨n,r,ts,L,h,x,o,rfl,_⟩:=h
  rfl
 ·obtain ⟨n,r,ts,L,h,x,o,rfl,R,hh,W,q⟩:=h
  refine ⟨_,(aE (bG (PW.pt (nC (eC (cU (aN dM (by rfl) B.isi PyProof.Rows.boot_isinstance (aA (pv 3) (aA (eI (v:=.ty "int") rfl B.int PyProof.Rows.boot_int rfl) aB))))) (jV (cU (aN dM (by rfl) B.isi PyProof.Rows.boot_isinstance (aA (pv 3) (aA (eI (v:=.ty "bool") rfl B.bool PyProof.Rows.boot_bool rfl) aB))))))) (aG (aU lC)) aW)
   (aG (aU (gR kB (pv 3) (aX bB (pv 1) (pv 2) (fun _ _=>rfl)) rfl)))),?_⟩
  cases W with
  | int i =>
   obtain ⟨bs,b1,b2,b3⟩:=R
   refine ⟨_,rfl,_,_,_,.type "int",true,rfl,⟨rfl,mI⟩,.of (.int _),_,rfl,iteF ?_⟩
   refine ⟨_,rfl,_,_,_,.type "int",false,rfl,⟨rfl,kS⟩,.of (.int _),_,rfl,iteF ?_⟩
   exact ⟨_,rfl,_,rfl,_,rfl,r,_,_,_,rfl,rfl,SqL.of b1,aP (rT (by rw [b3.1]; exact hh)),_,_,rfl,.inl (SqL.of (b3.2 h hh)),rfl,wX,q⟩
  | no h =>
   obtain ⟨t,ty,h | ⟨h1,h2⟩⟩:=h
   ·exact ⟨_,rfl,_,_,_,t,false,rfl,⟨rfl,h⟩,ty,_,rfl,iteT (iteT q)⟩
   ·refine ⟨_,rfl,_,_,_,t,true,rfl,⟨rfl,h1⟩,ty,_,rfl,iteF ?_⟩
    exact ⟨_,rfl,_,_,_,t,true,rfl,⟨rfl,h2⟩,ty,_,rfl,iteT q⟩
theorem nA : aZ ["_law_n", "_law_outs_here", "_law_stand_here", "_law_thing", "_law_i", "_law_alike"] ["_law_n", "_law_outs_here", "_law_stand_here", "_law_thing"] (aM qA):=⟨rfl,rfl,rfl,by decide +kernel,rfl,by decide +kernel,by decide +kernel⟩
def nB (K : PySem.W.Frag) : Sp:=fun vs H Q _=>∃ (n : Nat) (r : Addr) (ts : Ts) (L : Addr→Prop) (sa : Addr) (st : List (Option Nat)) (x : V) (o : Option (List Ent)),vs = [.int n,.ref r,.ref sa,x]∧bT H L r n (outN n ts)∧H sa = some (.tup (st.map oV))∧st.length ≤ 16∧(∀ y,some y∈st→y < n)∧(∀ H',Same H H'→Th K H' x o)∧∀ r H',Same H H'→RsV H' (wrB n ts st o) r→Q r H'
theorem aA6 {f : Addr} {fd : FuncData} (F : Fun K "_law_wrong" "_law_wrong" qA f fd) (B : Bl mg) (IS : Cal P w K mg base CX0 1 "_law_is_step" ["_law_n", "_law_outs_here", "_law_house", "_law_thing"] (uK K)) : FnOk P w K mg base CX0 2 f fd ["_law_n", "_law_outs_here", "_law_stand_here", "_law_thing"] (nB K):=by
 refine F.ok nA (fun vs H Q E h=>?_) (fun cdv A outer s H vs Q E hr h=>?_)
 ·obtain ⟨n,r,ts,L,sa,st,x,o,rfl,_⟩:=h
  rfl
 ·obtain ⟨n,r,ts,L,sa,st,x,o,rfl,R,hsa,sl,hss,hx,q⟩:=h
  refine' ⟨_,(aE (bG (PW.pt (nC (eC (cU (aN dM (by rfl) B.isi PyProof.Rows.boot_isinstance (aA (pv 3) (aA (eI (v:=.ty "tuple") rfl B.tup PyProof.Rows.boot_tuple rfl) aB))))) (jV (aQ gE (aN aT (by rfl) B.len PySem.boot_len (aA (pv 3) aB)) (aN aT (by rfl) B.len PySem.boot_len (aA (pv 2) aB)) (aV _))))) (aG (aU (bA (aA eS aB)))) aW)
   (aE (cA PassesOwn.never rfl (bH rfl B.range (aA (aN aT (by rfl) B.len PySem.boot_len (aA (pv 2) aB)) aB)) (aL (i:=4) nA.nd rfl (Or.inr rfl))
    (aG (bG (aQ nF (aX cD (pv 2) (pv 4) (fun _ _=>rfl)) cB (aV _)) (aG (bG (aQ iV (aX cD (pv 3) (pv 4) (fun _ _=>rfl)) cB (aV _)) (aG (aU (bA (aA eS (aA (pv 4) aB))))) aW)) (aG (bG (eC (cU (aO IS hr aR (aA (pv 0) (aA (pv 1) (aA (aX cD (pv 2) (pv 4) (fun _ _=>rfl)) (aA (aX cD (pv 3) (pv 4) (fun _ _=>rfl)) aB))))))) (aG (aU (bA (aA eS (aA (pv 4) aB))))) (aE (dB (i:=5) (g:=(bL 0)) (tt:=(tAnd (gI (tOp (rEq) (tOp (rIxT K) (tVar 1) (tVar 0)) (tOp (rIxT K) (tVar 1) (tVar 2)))) (gI (tOp (rEq) (tOp (rIxT K) (tVar 3) (tVar 0)) (tOp (rIxT K) (tVar 3) (tVar 2)))))) (te:=(tVar 0)) (NB:=["_law_j", "_law_stand_here", "_law_i", "_law_thing"]) (src:=[none,some 2,some 4,some 3]) (bR (by kernel_rfl)) rfl (bH rfl B.range (aA (pv 4) aB)) ?g1 ?t1 ?e1 nA.nd rfl rfl rfl)
      (aG (bG (aQ (sR (e:=eqV) hr.u) (pv 5) (bW aB) (aV _)) (aG (aU (bA (aA eS (aA (aX bB (pv 5) aI (fun _ _=>rfl)) (aA (pv 4) aB)))))) aW))))))))
   (aG (aU cB)))),?_⟩
  case g1=>exact fun cl C s₃ H₃ fp=>(aL (i:=0) iI rfl (Or.inl rfl) (Or.inr rfl))
  case t1=>exact fun cl C s₃ H₃ fp=>eN (PW.pt (eT (aQ cP (aX cD (pv 1) (pv 0) (fun _ _=>rfl)) (aX cD (pv 1) (pv 2) (fun _ _=>rfl)) (aV _)) (eJ (aQ cP (aX cD (pv 3) (pv 0) (fun _ _=>rfl)) (aX cD (pv 3) (pv 2) (fun _ _=>rfl)) (aV _)))))
  case e1=>exact fun cl C s₃ H₃ fp=>(pv 0)
  have hx0:=hx H (Same.refl _)
  have row : wrB n ts st o = some (("row" : Str),[])→tRet (tTup (bE (tC (.str "row")) tNil)) { nx:=fun _ H'=>Q .non H',rt:=Q } [some (.int (n : Int)),some (.ref r),some (.ref sa),some x,none,none] H:=fun hb=>by
   refine ⟨by show 1 ≤ sizeLine; decide,fun t ht=>q _ _ (aF ht) ?_⟩
   rw [hb]
   exact ⟨t,rfl,aD⟩
  cases hx0 with
  | no ty h=>exact ⟨_,rfl,_,_,_,_,false,rfl,⟨rfl,h⟩,ty,_,rfl,iteT (iteT (row rfl))⟩
  | @tup a xs es hxs en =>
  have el0:=en.1
  refine ⟨_,rfl,_,_,_,.type "tuple",true,rfl,⟨rfl,lR⟩,.of (.tup hxs),_,rfl,iteF ?_⟩
  refine ⟨_,rfl,a,_,rfl,.inr (SqT.of hxs),_,rfl,sa,_,rfl,.inr (SqT.of hsa),rfl,_,rfl,?_⟩
  rw [List.length_map]
  by_cases el : es.length = st.length
  rotate_left
  ·exact fN (by simp; lia) (row (by show (if es.length = st.length then _ else _) = _; rw [if_neg el]))
  have wb : wrB n ts st (some es) = (List.range st.length).findSome? (wrE n ts st es):=by show (if es.length = st.length then _ else _) = _; rw [if_pos el]
  have enH : ∀ H',Same H H'→Ens K H' xs es:=fun H' s=>by
   have:=hx H' s
   cases this with
   | @tup _ xs' _ h' e' =>
    have:=s _ _ hxs
    rw [this] at h'; cases h'
    exact e'
  refine iL (by simp; lia) ?_
  refine ⟨_,rfl,sa,_,rfl,.inr (SqT.of hsa),_,rfl,by lia,by rw [List.length_map]; lia,?_⟩
  rw [List.length_map]
  refine bY (n:=st.length) (lo:=0) (fun k σ Hc=>(∃ u v,σ = [some (.int (n : Int)),some (.ref r),some (.ref sa),some (.ref a),u,v])∧Same H Hc∧∀ j,j < k→wrE n ts st es j = none) ⟨⟨_,_,rfl⟩,Same.refl _,fun j hj=>absurd hj (Nat.not_lt_zero _)⟩ ?_ ?_
  ·rintro i σ Hc hi ⟨⟨u,v,rfl⟩,sc,hal⟩
   rw [Int.zero_add]
   have xl : i < xs.length:=by lia
   have e1:=(enH Hc sc).2 i (by lia)
   have nxt : ∀ v H',Same H H'→wrE n ts st es i = none→(∃ u w,[some (V.int (n : Int)),some (.ref r),some (.ref sa),some (.ref a),some (.int (i : Int)),v] = [some (.int (n : Int)),some (.ref r),some (.ref sa),some (.ref a),u,w])∧Same H H'∧∀ j,j < i + 1→wrE n ts st es j = none:=fun v H' s' hf=>⟨⟨_,_,rfl⟩,s',fun j hj=>by
    by_cases c : j < i
    ·exact hal j c
    ·obtain rfl : j = i:=by lia
     exact hf⟩
   have ret : ∀ r' H' rs,Same H H'→wrE n ts st es i = some rs→RsV H' (some rs) r'→Q r' H':=fun r' H' rs s' hf hr'=>q _ _ s' (by rw [wb,pX hf hal hi]; exact hr')
   refine ⟨_,rfl,_,rfl,sa,_,_,_,rfl,rfl,SqT.of (sc _ _ hsa),aP (gQ hi),rfl,_,rfl,?_⟩
   cases ho : st.getD i none with
   | none =>
    have we : wrE n ts st es i = if es.getD i none = none then none else some (("none" : Str),[i]):=by unfold wrE; rw [ho]
    refine iteT ⟨_,rfl,_,rfl,a,_,_,_,rfl,rfl,SqT.of (sc _ _ hxs),aP (lX xl),rfl,_,rfl,?_⟩
    generalize es.getD i none = e at *
    generalize xs.getD i .non = y at *
    cases e1 with
    | non=>exact iteF (nxt _ _ sc (by rw [we]; rfl))
    | th hn w =>
     refine fN (by simp [hn]) ⟨_,rfl,by show 2 ≤ sizeLine; decide,fun t ht=>ret _ _ _ (sc.trans (aF ht)) (by rw [we,if_neg (by simp)]) ⟨t,rfl,aD⟩⟩
   | some h =>
    have hh : h < n:=hss h (by rw [← ho,List.getD_eq_getElem?_getD,List.getElem?_eq_getElem hi]; exact List.getElem_mem _)
    have we : wrE n ts st es i = if gO n ts h (es.getD i none) = true then ((List.range i).find? (alB st es i h)).map (fun j=>(("twice" : Str),[j,i])) else some (("tie" : Str),[i]):=by unfold wrE; rw [ho]
    have oi : (st.map oV)[i]? = some (.int (h : Int)):=by rw [gQ hi,ho]; rfl
    refine iteF ⟨_,rfl,_,rfl,_,rfl,_,rfl,sa,_,_,_,rfl,rfl,SqT.of (sc _ _ hsa),aP oi,_,rfl,_,rfl,a,_,_,_,rfl,rfl,SqT.of (sc _ _ hxs),aP (lX xl),n,r,ts,L,h,_,_,rfl,R.same sc,hh,e1.wh,_,rfl,?_⟩
    rw [aA5]
    cases hs : gO n ts h (es.getD i none) with
    | false=>exact iteT ⟨_,rfl,by show 2 ≤ sizeLine; decide,fun t ht=>ret _ _ _ (sc.trans (aF ht)) (by rw [we,if_neg (by rw [hs]; decide)]) ⟨t,rfl,aD⟩⟩
    | true =>
    rw [if_pos hs] at we
    obtain ⟨z,ez⟩ : ∃ z,es.getD i none = some (some z):=by
     match e : es.getD i none with
     | none=>rw [e] at hs; cases hs
     | some none=>rw [e] at hs; cases hs
     | some (some z)=>exact ⟨z,rfl⟩
    have ex : xs[i]? = some (.int z):=by rw [lX xl]; rw [ez] at e1; rw [en_i e1]
    refine iteF ?_
    refine ⟨_,rfl,(i : Int),rfl,by lia,by lia,fun D1 hD1=>?_⟩
    refine pO (lo:=0) (n:=i) (alB st es i h) (fun σ=>∃ b,σ = [b,some (.ref sa),some (.int (i : Int)),some (.ref a)]) hD1 (by lia) ⟨_,rfl⟩ ?_ ?_
    ·rintro j σ H5 Kt Kf hj ⟨b',rfl⟩ sm5 kt kf
     rw [Int.zero_add] at kt ⊢
     have s5:=sc.trans sm5
     refine ⟨_,rfl,_,rfl,sa,_,_,_,rfl,rfl,SqT.of (s5 _ _ hsa),aP (gQ (by lia)),_,rfl,_,rfl,sa,_,_,_,rfl,rfl,SqT.of (s5 _ _ hsa),aP oi,aA4,_,rfl,?_⟩
     rw [aCl]
     by_cases c : st.getD j none = some h
     ·rw [decide_eq_true c]
      obtain ⟨z2,ez2⟩:=wY (hal j hj) c
      have ej : xs[j]? = some (.int z2):=by rw [lX (by lia)]; exact congrArg some (en_i (by have:=(enH Hc sc).2 j (by lia); rw [ez2] at this; exact this))
      refine iteT ⟨_,rfl,_,rfl,a,_,_,_,rfl,rfl,SqT.of (s5 _ _ hxs),aP ej,_,rfl,_,rfl,a,_,_,_,rfl,rfl,SqT.of (s5 _ _ hxs),aP ex,rfl,_,rfl,?_⟩
      have ea : alB st es i h j = decide (V.int z2 = V.int z):=by
       unfold alB
       rw [decide_eq_true c,Bool.true_and,ez,ez2]
       exact decide_eq_decide.mpr ⟨(fun y=>by cases y; rfl),(fun y=>by cases y; rfl)⟩
      rw [← ea]
      cases hk2 : alB st es i h j with
      | false=>exact iteF (kf _ _ ⟨_,rfl⟩ (Same.refl _) hk2)
      | true=>exact iteT ⟨_,rfl,kt _ _ ⟨_,rfl⟩ (Same.refl _) hk2⟩
     ·rw [decide_eq_false c]
      exact iteF (iteF (kf _ _ ⟨_,rfl⟩ (Same.refl _) (by unfold alB; rw [decide_eq_false c]; rfl)))
    intro H5 s8 hD5
    have e0 : (((List.range i).filter (alB st es i h)).map fun (x : Nat)=>V.int (0 + (x : Int))) = NV ((List.range i).filter (alB st es i h)):=List.map_congr_left fun x _=>by rw [Int.zero_add]
    rw [e0] at hD5
    have hf:=List.head?_filter (p:=alB st es i h) (l:=List.range i)
    have s5:=sc.trans s8
    generalize (List.range i).filter (alB st es i h) = fs at *
    rw [← hf] at we
    refine ⟨_,rfl,by show 0 ≤ sizeLine; decide,fun E1 hE1=>?_⟩
    have sE:=aF (o:=.lst []) hE1
    refine ⟨D1,E1,_,[],rfl,rfl,SqL.of (sE _ _ hD5),SqL.of aD,fun i h1 h2=>absurd h2 (by simp),_,rfl,?_⟩
    rw [if_pos rfl,kX]
    cases fs with
    | nil=>exact iteF (nxt _ _ (s5.trans sE) we)
    | cons j js =>
     refine fN rfl ⟨_,rfl,D1,_,_,_,rfl,rfl,SqL.of (sE _ _ hD5),aP (j:=0) (v:=.int (j : Int)) rfl,_,rfl,by show 3 ≤ sizeLine; decide,fun t ht=>ret _ _ _ ((s5.trans sE).trans (aF ht)) we ⟨t,rfl,aD⟩⟩
  ·rintro σ Hc ⟨⟨u,v,rfl⟩,sc,hal⟩
   exact q _ _ sc (by rw [wb,pW hal]; rfl)
end
end K12
namespace K12
open PySem L2 NetM
abbrev uL : Stmt:=top 38
theorem aEb : (["_law_row"] : List Str).Nodup:=by decide +kernel
theorem oR {cs : List Addr} {j : Nat} (h : j < cs.length) : cs.getD j 0∈cs:=by rw [List.getD_eq_getElem?_getD,List.getElem?_eq_getElem h]; exact List.getElem_mem _
theorem aEK {cs : List Addr} {i j : Nat} (nd : cs.Nodup) (hi : i < cs.length) (hj : j < cs.length) (ne : i ≠ j) : cs.getD i 0 ≠ cs.getD j 0:=by
 rw [List.getD_eq_getElem?_getD,List.getElem?_eq_getElem hi,List.getD_eq_getElem?_getD,List.getElem?_eq_getElem hj]
 exact fun e=>ne ((List.getElem_inj nd).mp e)
theorem wZ {n : Nat} {ts : Ts} {h : Nat} : (outN n ts h).length ≤ n:=by
 unfold outN
 exact Nat.le_trans (List.length_filter_le _ _) (by rw [List.length_map,List.length_range]; exact Nat.le_refl _)
theorem aA7 {n : Nat} {ts : Ts} {h x : Nat} (n1 : 0 < n) (hx : x∈outN n ts h) : x < n:=by
 obtain ⟨s,_,rfl⟩:=List.mem_map.mp (List.mem_filter.mp hx).1
 exact Nat.mod_lt _ n1
theorem jS {st : List (Option Nat)} {i : Nat} {o x : Option Nat} (h : st[i]? = some o) : (st.take (i + 1)).count x = (st.take i).count x + (if o = x then 1 else 0):=by
 rw [List.take_add_one,h,Option.toList_some,List.count_append,List.count_singleton]
 simp
section
variable {P : Program} {w : World} {K : PySem.W.Frag} {mg : Str→Option Value} {base : Heap}
theorem hG : aZ ["_law_pot_here", "_law_outs_here", "_law_stand_here", "_law_left", "_law_found", "_law_house", "_law_there"] ["_law_pot_here", "_law_outs_here", "_law_stand_here"] (aM uL):=⟨rfl,rfl,rfl,by decide +kernel,rfl,by decide +kernel,by decide +kernel⟩
def qB : Sp:=fun vs H Q _=>∃ (p : Addr) (r : Addr) (n : Nat) (ts : Ts) (L : Addr→Prop) (sa : Addr) (homes : List Nat) (st : List (Option Nat)),vs = [.ref p,.ref r,.ref sa]∧1 ≤ n∧n ≤ 32∧bC H p∧bT H L r n (outN n ts)∧H sa = some (.tup (st.map oV))∧Stnd n ts homes st ∧
 ∀ (t : Addr) (fs : List (Option Nat)) (H' : Hp),aK p H H'→bC H' p→H' t = some (.tup (fs.map oV))→fs.length ≤ 16→(∀ y,some y∈fs→y < n)→Q (.ref t) H'
theorem aB0 {f : Addr} {fd : FuncData} (F : Fun K "_law_right" "_law_right" uL f fd) (B : Bl mg) (D : Cal P w K mg base CX0 1 "_law_take" ["_law_pot_here", "_law_many"] cY) : FnOk P w K mg base CX0 2 f fd ["_law_pot_here", "_law_outs_here", "_law_stand_here"] qB:=by
 refine F.ok hG (fun vs H Q E h=>?_) (fun cdv A outer s H vs Q E hr h=>?_)
 ·obtain ⟨p,r,n,ts,L,sa,homes,st,rfl,_⟩:=h
  rfl
 ·obtain ⟨p,r,n,ts,L,sa,homes,st,rfl,n1,n2,hp,R0,hsa,SD,q⟩:=h
  refine' ⟨_,(aE (dB (i:=3) (g:=(bL 0)) (te:=(tCB (fun xs H Q=>∃ p ys,xs = [V.ref p]∧(SqL K H p ys∨SqT K H p ys)∧∀ l,H l = none→Q (.ref l) (upd H l (.lst ys))) (bE (tVar 0) tNil))) (NB:=["_law_row"]) (src:=[none]) (bR (by kernel_rfl)) rfl (cC (pv 1)) ?g1 ?t1 ?e1 hG.nd rfl rfl rfl)
   (aE (aS (i:=4) hG.nd rfl (Or.inl rfl) (bW aB))
   (aE (cA PassesOwn.never rfl (nE (pv 2)) (aL (i:=5) hG.nd rfl (Or.inl rfl))
    (aE (aS (i:=6) hG.nd rfl (Or.inl rfl) cB)
    (aE (bG (aQ iV (pv 5) cB (aV _)) (aG (aS (i:=6) hG.nd rfl (Or.inl rfl) (eK PySem.F.plainAttrs_list PySem.F.slot_list_pop PySem.F.type_list_pop sD (aX bB (pv 3) (pv 5) (fun _ _=>rfl)) (aA (aO D hr aR (aA (pv 0) (aA (aN aT (by rfl) B.len PySem.boot_len (aA (aX bB (pv 3) (pv 5) (fun _ _=>rfl)) aB)) aB))) aB)))) aW)
    (aG (cM (eK PySem.F.plainAttrs_list PySem.F.slot_list_append PySem.F.type_list_append dJ (pv 4) (aA (pv 6) aB)))))))
   (aG (aU (cT gA (by rfl) B.tup PyProof.Rows.boot_tuple (aA (pv 4) aB))))))),?_⟩
  case g1=>exact fun cl C s₃ H₃ fp=>(aL (i:=0) aEb rfl (Or.inl rfl) (Or.inr rfl))
  case t1=>exact fun cl C s₃ H₃ fp=>cE
  case e1=>exact fun cl C s₃ H₃ fp=>(cT kC (by rfl) B.lst PyProof.Rows.boot_list (aA (pv 0) aB))
  obtain ⟨bs,b1,b2,b3⟩:=R0
  have bl : bs.length = n:=b3.1
  refine ⟨_,rfl,r,rfl,⟨_,SqL.of b1⟩,fun D1 hD1=>?_⟩
  refine dC (K:=K) (xs:=bs.map V.ref) (fun i ys σ H2=>(∃ a,σ = [a])∧Same H H2∧H2 D1 = some (.lst ys)∧∃ cs : List Addr,ys = cs.map V.ref∧cs.length = i∧cs.Nodup∧(∀ c∈cs,H c = none∧c ≠ D1∧H2 c ≠ none)∧∀ j,j < i→H2 (cs.getD j 0) = some (.lst (NV (outN n ts j))))
   ⟨⟨_,rfl⟩,aF hD1,aD,[],rfl,rfl,List.nodup_nil,fun c hc=>(nomatch hc),fun j hj=>absurd hj (Nat.not_lt_zero _)⟩ (fun i ys σ H2 _ z=>SqL.of (z.2.1 _ _ b1)) ?_ ?_
  ·rintro i x ys σ H2 Kt Kf hx ⟨⟨a,rfl⟩,sm,hDl,cs,rfl,cl,nd,hc,hr2⟩ kt kf
   have hi : i < n:=by have:=(List.getElem?_eq_some_iff.mp hx).1; rw [List.length_map] at this; lia
   obtain rfl : V.ref (bs.getD i 0) = x:=by rw [rT (by lia)] at hx; exact Option.some.inj hx
   refine ⟨_,rfl,_,_,rfl,.inl (SqL.of (sm _ _ (b3.2 i hi))),fun l hl=>?_⟩
   have nD : D1 ≠ l:=aJ hDl hl
   have nl : ∀ c∈cs,c ≠ l:=fun c hc'=>by rintro rfl; exact (hc c hc').2.2 hl
   refine kt _ _ _ (by rw [aH nD]; exact hDl) (by rw [List.length_map,cl]; exact Nat.lt_of_lt_of_le (show i < 33 by lia) (by decide)) ⟨⟨_,rfl⟩,bV (sm.trans (aF hl)) hD1,aD,cs ++ [l],by rw [List.map_append]; rfl,by rw [List.length_append,cl]; rfl,?_,fun c hc'=>?_,fun j hj=>?_⟩
   ·exact List.nodup_append.mpr ⟨nd,by simp,fun a ha b hb=>by rw [List.mem_singleton.mp hb]; exact nl a ha⟩
   ·rcases List.mem_append.mp hc' with z | z
    ·exact ⟨(hc c z).1,(hc c z).2.1,by rw [aH (hc c z).2.1,aH (nl c z)]; exact (hc c z).2.2⟩
    ·rw [List.mem_singleton.mp z]
     exact ⟨sm.free hl,nD.symm,by rw [aH nD.symm,aD]; exact fun z=>by cases z⟩
   ·by_cases c : j < i
    ·have m:=oR (cs:=cs) (j:=j) (by lia)
     have e : (cs ++ [l]).getD j 0 = cs.getD j 0:=by rw [List.getD_eq_getElem?_getD,List.getD_eq_getElem?_getD,List.getElem?_append_left (by lia)]
     rw [e,aH (hc _ m).2.1,aH (nl _ m)]
     exact hr2 j c
    ·obtain rfl : j = i:=by lia
     have e : (cs ++ [l]).getD j 0 = l:=by rw [List.getD_eq_getElem?_getD,List.getElem?_append_right (by lia),cl,Nat.sub_self]; rfl
     rw [e,aH nD.symm,aD]
  rintro ys σ H2 ⟨⟨a,rfl⟩,sm,hDl,cs,rfl,cl,nd,hc,hr2⟩
  rw [List.length_map,bl] at cl hr2
  have fD : H D1 = none:=hD1
  have cH : ∀ h,h < n→H (cs.getD h 0) = none∧cs.getD h 0 ≠ D1:=fun h hh=>⟨(hc _ (oR (by lia))).1,(hc _ (oR (by lia))).2.1⟩
  dsimp only
  refine ⟨by show 0 ≤ sizeLine; decide,fun Fo hFo=>?_⟩
  have sF:=aF (o:=.lst []) hFo
  have fF:=sm.free hFo
  have nFD : Fo ≠ D1:=(aJ hDl hFo).symm
  have nFc : ∀ h,h < n→cs.getD h 0 ≠ Fo:=fun h hh=>aJ (hr2 h hh) hFo
  have npF:=hp.ne fF
  have npD:=hp.ne fD
  have npc : ∀ h,h < n→cs.getD h 0 ≠ p:=fun h hh=>hp.ne (cH h hh).1
  have nsa:=hp.neT hsa
  refine ⟨_,rfl,sa,rfl,⟨_,SqT.of ((sm.trans sF) _ _ hsa)⟩,oZ (K:=K) (xs:=st.map oV) (fun i σ Hc=>∃ (ls : Nat→List Nat) (fs : List (Option Nat)),(∃ u v,σ = [some (.ref p),some (.ref r),some (.ref sa),some (.ref D1),some (.ref Fo),u,v])∧aK p H Hc∧bC Hc p∧Hc D1 = some (.lst (cs.map V.ref))∧Hc Fo = some (.lst (fs.map oV))∧fs.length = i∧(∀ y,some y∈fs→y < n)∧∀ h,h < n→Hc (cs.getD h 0) = some (.lst (NV (ls h)))∧(ls h).length + (st.take i).count (some h) = (outN n ts h).length∧∀ x∈ls h,x < n)
   ⟨outN n ts,[],⟨_,_,rfl⟩,aK.of (sm.trans sF),hp.same (sm.trans sF),sF _ _ hDl,aD,rfl,fun y hy=>(nomatch hy),fun h hh=>⟨sF _ _ (hr2 h hh),rfl,fun x hx=>aA7 n1 hx⟩⟩ (fun i σ Hc _ z=>by obtain ⟨_,_,_,z,_⟩:=z; exact SqT.of (z _ _ hsa nsa)) ?_ ?_⟩
  ·rintro i x σ Hc hx ⟨ls,fs,⟨u,v,rfl⟩,sc,hpc,hDc,hFc,fl,hfs,hls⟩
   have hi : i < st.length:=by have:=(List.getElem?_eq_some_iff.mp hx).1; rwa [List.length_map] at this
   rw [gQ hi] at hx
   obtain rfl:=Option.some.inj hx
   have hoi : st[i]? = some (st.getD i none):=by rw [List.getD_eq_getElem?_getD,List.getElem?_eq_getElem hi]; rfl
   have hom : st.getD i none∈st:=List.mem_of_getElem? hoi
   generalize st.getD i none = o at *
   have i16 : i < 16:=Nat.lt_of_lt_of_le hi SD.le
   refine iK (fun σ H7=>H7 = Hc∧σ = [some (.ref p),some (.ref r),some (.ref sa),some (.ref D1),some (.ref Fo),some (oV o),some .non]) ?_ (fun N hN=>hN _ _ ⟨rfl,rfl⟩)
   rintro σ H7 ⟨rfl,rfl⟩
   refine iK (fun σ H8=>∃ (ls : Nat→List Nat) (o' : Option Nat),(σ = [some (.ref p),some (.ref r),some (.ref sa),some (.ref D1),some (.ref Fo),some (oV o),some (oV o')])∧aK p H H8∧bC H8 p∧H8 D1 = some (.lst (cs.map V.ref))∧H8 Fo = some (.lst (fs.map oV))∧(∀ y,o' = some y→y < n)∧∀ h,h < n→H8 (cs.getD h 0) = some (.lst (NV (ls h)))∧(ls h).length + (st.take (i + 1)).count (some h) = (outN n ts h).length∧∀ x∈ls h,x < n) ?_ ?_
   ·rintro σ H8 ⟨ls',o',rfl,s8,hp8,hD8,hF8,ho',hls'⟩
    refine ⟨_,rfl,.inl ⟨rfl,_,SqL.of hF8⟩,_,rfl,Fo,_,_,rfl,rfl,hF8,by rw [List.length_map,fl]; exact Nat.lt_of_lt_of_le (show i < 33 by lia) (by decide),?_⟩
    refine ⟨ls',fs ++ [o'],⟨_,_,rfl⟩,aK.put s8 fF,hp8.put npF.symm,by rw [aH nFD.symm]; exact hD8,by rw [aD,List.map_append]; rfl,by rw [List.length_append,fl]; rfl,fun y hy=>?_,fun h hh=>?_⟩
    ·rcases List.mem_append.mp hy with z | z
     ·exact hfs y z
     ·exact ho' y (List.mem_singleton.mp z).symm
    ·rw [aH (nFc h hh)]; exact hls' h hh
   ·intro N hN
    cases o with
    | none=>exact ⟨_,rfl,rfl,_,rfl,iteF (hN _ _ ⟨ls,none,rfl,sc,hpc,hDc,hFc,(fun y hy=>(nomatch hy)),fun h hh=>⟨(hls h hh).1,by rw [jS hoi,if_neg (by simp)]; exact (hls h hh).2.1,(hls h hh).2.2⟩⟩)⟩
    | some h =>
     have hh : h < n:=SD.ss h hom
     obtain ⟨g1,g2,g3⟩:=hls h hh
     have cp : (st.take (i + 1)).count (some h) ≤ (outN n ts h).length:=Nat.le_trans ((List.take_sublist _ _).count_le _) (SD.cap h hh)
     rw [jS hoi,if_pos rfl] at cp
     have lp : 0 < (ls h).length:=by lia
     have lu : (ls h).length ≤ 32:=by have:=wZ (n:=n) (ts:=ts) (h:=h); lia
     have ch:=rT (bs:=cs) (h:=h) (by lia)
     refine ⟨_,rfl,rfl,_,rfl,fN rfl ?_⟩
     refine ⟨_,rfl,_,rfl,D1,_,_,_,rfl,rfl,SqL.of hDc,aP ch,.inl ⟨rfl,_,SqL.of g1⟩,_,rfl,_,rfl,_,rfl,D1,_,_,_,rfl,rfl,SqL.of hDc,aP ch,_,_,rfl,.inl (SqL.of g1),p,_,rfl,by rw [bD]; exact lp,by rw [bD]; lia,hpc,fun d H9 hd s9 hp9=>?_⟩
     rw [bD] at hd
     have hv : (ls h)[d]? = some (ls h)[d]:=List.getElem?_eq_getElem hd
     refine ⟨_,_,(d : Int),d,.int ((ls h)[d] : Nat),rfl,rfl,s9 _ _ g1 (npc h hh),by lia,by lia,(lF (eO (by rw [bD]; exact hd))).1,by unfold NV; rw [List.getElem?_map,hv]; rfl,?_⟩
     refine hN _ _ ⟨fun k=>if k = h then (ls h).eraseIdx d else ls k,some (ls h)[d],rfl,aK.put (sc.trans s9) (cH h hh).1,hp9.put (npc h hh).symm,by rw [aH (cH h hh).2.symm]; exact s9 _ _ hDc npD,by rw [aH (nFc h hh).symm]; exact s9 _ _ hFc npF,fun y hy=>by cases hy; exact g3 _ (List.getElem_mem _),fun k hk=>?_⟩
     dsimp only
     by_cases c : k = h
     ·subst c
      rw [if_pos rfl,aD,mV]
      refine ⟨rfl,?_,fun x hx=>g3 x (List.mem_of_mem_eraseIdx hx)⟩
      rw [jS hoi,if_pos rfl,List.length_eraseIdx_of_lt hd]
      lia
     ·rw [if_neg c,aH (aEK nd (by lia) (by lia) c),jS hoi,if_neg (fun z=>c (Option.some.inj z).symm)]
      obtain ⟨k1,k2,k3⟩:=hls k hk
      exact ⟨s9 _ _ k1 (npc k hk),k2,k3⟩
  ·rintro σ Hc ⟨ls,fs,⟨u,v,rfl⟩,sc,hpc,hDc,hFc,fl,hfs,hls⟩
   refine ⟨_,rfl,Fo,_,rfl,.inl ⟨SqL.of hFc,fun t ht=>?_⟩⟩
   have st':=aF (o:=.tup (fs.map oV)) ht
   exact q t fs _ (sc.trans (aK.of st')) (hpc.same st') aD (by rw [fl,List.length_map]; exact SD.le) hfs
end
end K12
namespace L2
open PySem PySem.Spec PyProof.Rows
inductive Ox where
 | non | bl (b : Bool) | int (i : Int) | neg (i : Int) | pow (a b : Int) | str (s : Str) | lst0 | dct0 | tup0 | tupA (o : Ox)
def rd1 : Expr→Option Ox
 | .Constant .none _ _=>some .non
 | .Constant (.bool b) _ _=>some (.bl b)
 | .Constant (.int i) _ _=>some (.int i)
 | .Constant (.str s) _ _=>some (.str s)
 | .List [] _=>some .lst0
 | .Dict [] [] _=>some .dct0
 | .Tuple [] _ _=>some .tup0
 | .UnaryOp .USub (.Constant (.int i) _ _) _=>some (.neg i)
 | .BinOp (.Constant (.int a) _ _) .Pow (.Constant (.int b) _ _) _=>some (.pow a b)
 | _=>none
def rdO : Expr→Option Ox
 | .Tuple [e] _ _=>(rd1 e).map .tupA
 | e=>rd1 e
def rdOs : List Expr→Option (List Ox)
 | []=>some []
 | e :: es=>(rdO e).bind fun o=>(rdOs es).map (o :: ·)
def tOx : Ox→TE
 | .non=>tC .non
 | .bl b=>tC (.bl b)
 | .int i=>tC (.int i)
 | .neg i=>tUn (rU fun i=>.int (-i)) (tC (.int i))
 | .pow a b=>tOp (rI CPow fun i j=>.int (i ^ j.toNat)) (tC (.int a)) (tC (.int b))
 | .str s=>tC (.str s)
 | .lst0=>aCk tNil
 | .dct0=>aAu
 | .tup0=>tTup tNil
 | .tupA o=>tTup (bE (tOx o) tNil)
def tOxs : List Ox→TA→TA
 | [],t=>t
 | o :: os,t=>bE (tOx o) (tOxs os t)
section
variable {X : Cx} {e : Expr} {es : List Expr} {o : Ox}
theorem aCm (h : rd1 e = some o) : starEach (e :: es) X.env = (false,eval e X.env) :: starEach es X.env:=by
 unfold rd1 at h
 split at h
 all_goals first | rfl | cases h
theorem aA8 (h : rd1 e = some o) : PE X e (tOx o):=by
 unfold rd1 at h
 split at h
 ·cases h; exact cB
 ·cases h; exact lC
 ·cases h; exact aI
 ·cases h; exact eS
 ·cases h; exact aDn aB
 ·cases h; exact aBx
 ·cases h; exact bA aB
 ·cases h; exact aEn aDC aI
 ·cases h; exact aY rY aI aI
 ·cases h
theorem aCn (h : rdO e = some o) : PE X e (tOx o)∧starEach (e :: es) X.env = (false,eval e X.env) :: starEach es X.env:=by
 unfold rdO at h
 split at h
 ·obtain ⟨o',h1,rfl⟩:=Option.map_eq_some_iff.mp h
  exact ⟨bA (aA (aA8 h1) aB (aCm h1)),rfl⟩
 ·exact ⟨aA8 h,aCm h⟩
theorem zG : ∀ {es : List Expr} {os : List Ox} {r : List Expr} {t : TA},rdOs es = some os→PA X r t→PA X (es ++ r) (tOxs os t)
 | [],os,r,t,h,hr=>by cases h; exact hr
 | e :: es,os,r,t,h,hr=>by
  unfold rdOs at h
  obtain ⟨o,h1,h2⟩:=Option.bind_eq_some_iff.mp h
  obtain ⟨os',h3,rfl⟩:=Option.map_eq_some_iff.mp h2
  exact aA (aCn (es:=[]) h1).1 (zG h3 hr) (aCn h1).2
end
def okO : Nat→Ox→Bool
 | _,.non=>true
 | _,.bl _=>true
 | _,.int i=>decide (-1 ≤ i∧i ≤ 33)
 | _,.neg i=>decide (i = 1)
 | _,.pow a b=>decide (a = 10∧b = 59)
 | _,.str s=>decide (s = "w" ∨ s = "")
 | n,.lst0=>decide (1 ≤ n)
 | _,.dct0=>true
 | n,.tup0=>decide (1 ≤ n)
 | n,.tupA (.int i)=>decide (1 ≤ n) && decide (i = 0)
 | _,.tupA _=>false
theorem ne_p {p a : Addr} {H : Hp} (hp : H p ≠ none) (h : H a = none) : a ≠ p:=by rintro rfl; exact hp h
theorem aA9 {p : Addr} {H H' : Hp} (hp : H p ≠ none) (s : Same H H') : H' p ≠ none:=fun z=>by
 cases e : H p with
 | none=>exact hp e
 | some ob=>rw [s _ _ e] at z; cases z
theorem Sw.ups {L : Addr→Prop} {H : Hp} {n m W : Nat} {x : V} (h : Sw L H n W x) (l : n ≤ m) : Sw L H m W x:=by
 induction l with
 | refl=>exact h
 | step _ ih=>exact ih.up
def Pl (p : Addr) (H : Hp) (v : V) : Prop:=(∀ a,v ≠ .ref a)∨∃ a o,v = .ref a∧a ≠ p∧H a = some o∧∀ xs,o = .tup xs→xs.length ≤ 1
theorem Pl.keep {p : Addr} {H H' : Hp} {v : V} (h : Pl p H v) (s : ∀ a o,a ≠ p→H a = some o→H' a = some o) : Pl p H' v:=by
 rcases h with h | ⟨a,o,e,n,g,l⟩
 ·exact .inl h
 ·exact .inr ⟨a,o,e,n,s _ _ n g,l⟩
theorem ox_k {p : Addr} {σ : St} : ∀ {o : Ox} {n : Nat} {H : Hp} {Q : V→Hp→Prop},okO n o = true→H p ≠ none→(∀ v H',Same H H'→Sw (· ≠ p) H' n 201 v∧Pl p H' v→Q v H')→tOx o σ H Q
 | .non,n,H,Q,_,hp,k=>k _ _ (Same.refl _) ⟨oQ.le (by decide),.inl fun a z=>(nomatch z)⟩
 | .bl b,n,H,Q,_,hp,k=>k _ _ (Same.refl _) ⟨aEJ.le (by decide),.inl fun a z=>(nomatch z)⟩
 | .int i,n,H,Q,h,hp,k=>k _ _ (Same.refl _) ⟨(eH (.inl (of_decide_eq_true h))).le (by decide),.inl fun a z=>(nomatch z)⟩
 | .neg i,n,H,Q,h,hp,k=>⟨i,rfl,k _ _ (Same.refl _) ⟨(eH (.inl (by have : i = 1:=of_decide_eq_true h; lia))).le (by decide),.inl fun a z=>(nomatch z)⟩⟩
 | .pow a b,n,H,Q,h,hp,k=>by
  obtain ⟨rfl,rfl⟩ : a = 10∧b = 59:=of_decide_eq_true h
  exact ⟨10,59,rfl,rfl,⟨by decide,by decide,by decide⟩,k _ _ (Same.refl _) ⟨(eH (.inr rfl)).le (by decide),.inl fun a z=>(nomatch z)⟩⟩
 | .str s,n,H,Q,h,hp,k=>k _ _ (Same.refl _) ⟨(aA2 (of_decide_eq_true h)).le (by decide),.inl fun a z=>(nomatch z)⟩
 | .lst0,n,H,Q,h,hp,k=>⟨by show 0 ≤ sizeLine; decide,fun a ha ns=>k _ _ (aF ha) ⟨((aA1 (L:=(· ≠ p)) (H:=upd H a (.lst [])) (a:=a) (xs:=[]) (n:=0) (W:=0) (ne_p hp ha) ns aD fun x hx=>(nomatch hx)).ups (of_decide_eq_true h)).le (by decide),.inr ⟨a,_,rfl,ne_p hp ha,aD,fun xs z=>(nomatch z)⟩⟩⟩
 | .dct0,n,H,Q,h,hp,k=>fun a ha=>k _ _ (aF ha) ⟨(aD8 (L:=(· ≠ p)) (H:=upd H a (.dK [])) (a:=a) (ne_p hp ha) aD).le (by decide),.inr ⟨a,_,rfl,ne_p hp ha,aD,fun xs z=>(nomatch z)⟩⟩
 | .tup0,n,H,Q,h,hp,k=>⟨by show 0 ≤ sizeLine; decide,fun a ha=>k _ _ (aF ha) ⟨((oP (L:=(· ≠ p)) (H:=upd H a (.tup [])) (a:=a) (xs:=[]) (n:=0) (W:=0) (ne_p hp ha) aD fun x hx=>(nomatch hx)).ups (of_decide_eq_true h)).le (by decide),.inr ⟨a,_,rfl,ne_p hp ha,aD,fun xs z=>by cases z; exact Nat.zero_le _⟩⟩⟩
 | .tupA (.int i),n,H,Q,h,hp,k=>by
  obtain ⟨h1,h2⟩:=Bool.and_eq_true_iff.mp h
  obtain rfl : i = 0:=of_decide_eq_true h2
  exact ⟨by show 1 ≤ sizeLine; decide,fun a ha=>k _ _ (aF ha) ⟨(oP (L:=(· ≠ p)) (H:=upd H a (.tup [.int 0])) (a:=a) (xs:=[.int 0]) (n:=0) (W:=200) (ne_p hp ha) aD fun x hx=>by rw [List.mem_singleton.mp hx]; exact eH (.inl (by decide))).ups (of_decide_eq_true h1),.inr ⟨a,_,rfl,ne_p hp ha,aD,fun xs z=>by cases z; exact Nat.le_refl _⟩⟩⟩
theorem zH {p : Addr} {σ : St} {n : Nat} {t : TA} : ∀ {os : List Ox} {H : Hp} {Q : List V→Hp→Prop},(∀ o∈os,okO n o = true)→H p ≠ none→(∀ vs H',Same H H'→vs.length = os.length→(∀ v∈vs,Sw (· ≠ p) H' n 201 v∧Pl p H' v)→t σ H' fun xs H2=>Q (vs ++ xs) H2)→tOxs os t σ H Q
 | [],H,Q,_,hp,k=>k [] H (Same.refl _) rfl fun v hv=>(nomatch hv)
 | o :: os,H,Q,h,hp,k=>by
  refine ox_k (h o List.mem_cons_self) hp fun v H' s sh=>?_
  refine zH (os:=os) (fun o' ho=>h o' (List.mem_cons_of_mem _ ho)) (aA9 hp s) fun vs H2 s2 hl hv=>?_
  refine k (v :: vs) H2 (s.trans s2) (congrArg (· + 1) hl) fun x hx=>?_
  rcases List.mem_cons.mp hx with rfl | hx
  ·exact ⟨sh.1.keep (Keep.of s2),sh.2.keep fun a o _ e=>s2 a o e⟩
  ·exact hv x hx
end L2
namespace K12
open PySem L2 NetM
abbrev sOdd : Stmt:=top 39
abbrev uM : Stmt:=top 40
theorem keepE {p : Addr} {H H' : Hp} (s : aK p H H') : Keep (· ≠ p) H H':=fun a o l e _=>s a o e l
theorem sw_o {L : Addr→Prop} {H : Hp} {n k : Nat} {o : Option Nat} (n2 : n ≤ 32) (h : ∀ y,o = some y→y < n) : Sw L H k 200 (oV o):=by
 cases o with
 | none=>exact oQ
 | some y=>exact eH (.inl (by have:=h y rfl; lia))
section
variable {P : Program} {w : World} {K : PySem.W.Frag} {mg : Str→Option Value} {base : Heap}
theorem aCo : aZ ["_law_pot_here", "_law_n", "_law_odd_here"] ["_law_pot_here", "_law_n"] (aM sOdd):=⟨rfl,rfl,rfl,by decide +kernel,rfl,by decide +kernel,by decide +kernel⟩
abbrev bo (i : Nat) : Stmt:=(bQ sOdd).getD i (.Pass ⟨0,0,0,0⟩)
def asgL : Stmt→List Expr
 | .Assign _ (.List es _) _=>es
 | _=>[]
theorem aB1 : ∃ es os q1 q2 q3 a1 a2 b1 b2 b3 b4,bQ sOdd = [.Assign [.Name "_law_odd_here" q1] (.List (es ++ [.Name "_law_n" a1,.BinOp (.Constant (.int 10) b1 b2) .Pow (.Constant (.int 59) b3 b4) a2]) q2) q3,bo 1]∧rdOs es = some os∧(∀ o∈os,okO 1 o = true)∧os.length = 8 :=
 ⟨(asgL (bo 0)).take 8,[.bl true,.bl false,.str "w",.str "",.tupA (.int 0),.lst0,.dct0,.neg 1],_,_,_,_,_,_,_,_,_,rfl,by kernel_rfl,by decide +kernel,rfl⟩
def zI : Sp:=fun vs H Q _=>∃ (p : Addr) (n : Nat),vs = [.ref p,.int n]∧n ≤ 32∧bC H p∧∀ (x : V) (H' : Hp),aK p H H'→bC H' p→Sw (· ≠ p) H' 1 201 x→Q x H'
theorem aEc {f : Addr} {fd : FuncData} (F : Fun K "_law_odd" "_law_odd" sOdd f fd) (B : Bl mg) (D : Cal P w K mg base CX0 1 "_law_take" ["_law_pot_here", "_law_many"] cY) : FnOk P w K mg base CX0 2 f fd ["_law_pot_here", "_law_n"] zI:=by
 refine F.ok aCo (fun vs H Q E h=>?_) (fun cdv A outer s H vs Q E hr h=>?_)
 ·obtain ⟨p,n,rfl,_⟩:=h
  rfl
 ·obtain ⟨p,n,rfl,n2,hp,q⟩:=h
  obtain ⟨es,os,q1,q2,q3,a1,a2,b1,b2,b3,b4,eb,hes,hos,ol⟩:=aB1
  rw [eb]
  refine ⟨_,(aE (aS (i:=2) aCo.nd rfl (Or.inl rfl) (bW (zG hes (aA (pv 1) (aA (aY rY aI aI) aB)))))
   (aG (aU (aX bB (pv 2) (aO D hr aR (aA (pv 0) (aA aI aB))) (fun _ _=>rfl))))),?_⟩
  refine zH (p:=p) (n:=1) hos hp.full fun vs H3 sH vl hv=>?_
  refine ⟨_,rfl,_,_,rfl,rfl,⟨by decide,by decide,by decide⟩,?_,fun L hL=>?_⟩
  ·rw [List.length_append,vl,ol]
   show 10 ≤ sizeLine
   decide
  have hp3:=hp.same sH
  have nL:=hp3.ne hL
  have hv2 : ∀ v∈vs ++ [.int (n : Int),.int (10 ^ 59)],Sw (· ≠ p) H3 1 201 v:=fun v hv'=>by
   rcases List.mem_append.mp hv' with z | z
   ·exact (hv v z).1
   ·rcases List.mem_cons.mp z with rfl | z
    ·exact (eH (.inl (by lia))).le (by decide)
    ·rw [List.mem_singleton.mp z]; exact (eH (.inr rfl)).le (by decide)
  have wl : (vs ++ [V.int (n : Int),.int (10 ^ 59)]).length = 10:=by rw [List.length_append,vl,ol]; rfl
  change bL 2 (V.ref L) _ (upd H3 L (.lst (vs ++ [V.int (n : Int),.int (10 ^ 59)]))) _
  generalize vs ++ [V.int (n : Int),.int (10 ^ 59)] = us at *
  have sL:=aF (o:=.lst us) hL
  refine ⟨_,rfl,_,rfl,p,10,rfl,by decide,by decide,hp3.same sL,fun d H4 hd s4 hp4=>?_⟩
  rw [← wl] at hd
  exact ⟨L,_,_,us[d],rfl,rfl,SqL.of (s4 _ _ aD nL),aP (List.getElem?_eq_getElem hd),q _ H4 ((aK.of (sH.trans sL)).trans s4) hp4 (((hv2 _ (List.getElem_mem hd)).keep (Keep.of sL)).keep (keepE s4))⟩
theorem xA : aZ ["_law_pot_here", "_law_way", "_law_n", "_law_outs_here", "_law_stand_here", "_law_thing", "_law_at"] ["_law_pot_here", "_law_way", "_law_n", "_law_outs_here", "_law_stand_here", "_law_thing"] (aM uM):=⟨rfl,rfl,rfl,by decide +kernel,rfl,by decide +kernel,by decide +kernel⟩
def qC : Sp:=fun vs H Q _=>∃ (p : Addr) (way n : Nat) (r : Addr) (ts : Ts) (L : Addr→Prop) (sa : Addr) (homes : List Nat) (st : List (Option Nat)) (a : Addr) (xs : List V) (N e : Nat),vs = [.ref p,.int way,.int n,.ref r,.ref sa,.ref a]∧1 ≤ n∧n ≤ 32∧bC H p∧bT H L r n (outN n ts)∧L r∧¬ L p∧H sa = some (.tup (st.map oV))∧Stnd n ts homes st∧H a = some (.tup xs)∧0 < xs.length∧xs.length = st.length∧1 ≤ N∧201 ≤ e∧(∀ x∈xs,Sw (· ≠ p) H N e x) ∧
 ∀ (t : Addr) (k : Nat) (x : V) (H' : Hp),aK p H H'→bC H' p→H' t = some (.tup [.int k,x])→k < xs.length→Sw (· ≠ p) H' N e x→Q (.ref t) H'
theorem aB2 {f : Addr} {fd : FuncData} (F : Fun K "_law_other" "_law_other" uM f fd) (B : Bl mg) (D : Cal P w K mg base CX0 1 "_law_take" ["_law_pot_here", "_law_many"] cY) (OD : Cal P w K mg base CX0 2 "_law_odd" ["_law_pot_here", "_law_n"] zI) : FnOk P w K mg base CX0 3 f fd ["_law_pot_here", "_law_way", "_law_n", "_law_outs_here", "_law_stand_here", "_law_thing"] qC:=by
 refine F.ok xA (fun vs H Q E h=>?_) (fun cdv A outer s H vs Q E hr h=>?_)
 ·obtain ⟨p,way,n,r,ts,L,sa,homes,st,a,xs,N,e,rfl,_⟩:=h
  rfl
 ·obtain ⟨p,way,n,r,ts,L,sa,homes,st,a,xs,N,e,rfl,n1,n2,hp,R0,hLr,hLp,hsa,SD,ha,x0,xl,hN,he,hxs,q⟩:=h
  have h1 : Room 1 _:=hr.mono (by decide)
  refine ⟨_,(aE (aS (i:=6) xA.nd rfl (Or.inl rfl) (aO D h1 aR (aA (pv 0) (aA (aN aT (by rfl) B.len PySem.boot_len (aA (pv 5) aB)) aB))))
   (aE (bG (aQ cP (pv 1) aI (aV _)) (aG (aU (bA (aA (pv 6) (aA cB aB))))) aW)
   (aE (bG (aQ cP (pv 1) aI (aV _)) (aG (aU (bA (aA (pv 6) (aA (aO OD hr aR (aA (pv 0) (aA (pv 2) aB))) aB))))) aW)
   (aE (bG (PW.pt (eT (aQ gG (pv 1) aI (aV _)) (eJ (aQ iV (aX cD (pv 4) (pv 6) (fun _ _=>rfl)) cB (aV _))))) (aG (aU (bA (aA (pv 6) (aA (aX bB (aX bB (pv 3) (aX cD (pv 4) (pv 6) (fun _ _=>rfl)) (fun _ _=>rfl)) (aO D h1 aR (aA (pv 0) (aA (aN aT (by rfl) B.len PySem.boot_len (aA (aX bB (pv 3) (aX cD (pv 4) (pv 6) (fun _ _=>rfl)) (fun _ _=>rfl)) aB)) aB))) (fun _ _=>rfl)) aB))))) aW)
   (aE (bG (aQ cP (pv 1) aI (aV _)) (aG (aU (bA (aA (pv 6) (aA (aX cD (pv 4) (pv 6) (fun _ _=>rfl)) aB))))) aW)
   (aE (bG (aQ cP (pv 1) aI (aV _)) (aG (aU (bA (aA (pv 6) (aA (aX cD (pv 5) (aO D h1 aR (aA (pv 0) (aA (aN aT (by rfl) B.len PySem.boot_len (aA (pv 5) aB)) aB))) (fun _ _=>rfl)) aB))))) aW)
   (aG (aU (bA (aA (pv 6) (aA (aO D h1 aR (aA (pv 0) (aA (pv 2) aB))) aB))))))))))),?_⟩
  have nsa:=hp.neT hsa
  have nha:=hp.neT ha
  have l16:=SD.le
  refine ⟨_,rfl,_,rfl,a,_,rfl,.inr (SqT.of ha),p,_,rfl,x0,by lia,hp,fun k H1 hk s1 hp1=>?_⟩
  have hk' : k < st.length:=by lia
  have fin : ∀ (x : V) (H2 : Hp),aK p H H2→bC H2 p→Sw (· ≠ p) H2 N e x→∀ t,H2 t = none→Q (.ref t) (upd H2 t (.tup [.int (k : Int),x])):=fun x H2 s2 hp2 sw t ht =>
   q t k x _ (s2.trans (aK.of (aF ht))) (hp2.same (aF ht)) aD hk (sw.keep (Keep.of (aF ht)))
  have hsa1:=s1 _ _ hsa nsa
  have ha1:=s1 _ _ ha nha
  refine ⟨_,rfl,rfl,_,rfl,ite2 (fun c=>⟨_,rfl,by show 2 ≤ sizeLine; decide,fin _ H1 s1 hp1 (oQ.le (by lia))⟩) (fun c=>?_)⟩
  refine ⟨_,rfl,rfl,_,rfl,ite2 (fun c=>?_) (fun c=>?_)⟩
  ·exact ⟨_,rfl,_,rfl,_,rfl,p,n,rfl,n2,hp1,fun x H2 s2 hp2 sw=>⟨by show 2 ≤ sizeLine; decide,fin _ H2 (s1.trans s2) hp2 ((sw.ups hN).le he)⟩⟩
  unfold xB
  dsimp only
  refine iK (fun σ H7=>H7 = H1∧σ = [some (.ref p),some (.int (way : Int)),some (.int (n : Int)),some (.ref r),some (.ref sa),some (.ref a),some (.int (k : Int))]) ?_ ?_
  ·rintro σ H7 ⟨rfl,rfl⟩
   refine ⟨_,rfl,rfl,_,rfl,ite2 (fun c=>?_) (fun c=>?_)⟩
   ·exact ⟨_,rfl,_,rfl,_,rfl,sa,_,_,_,rfl,rfl,SqT.of hsa1,aP (gQ hk'),by show 2 ≤ sizeLine; decide,fin _ _ s1 hp1 ((sw_o n2 fun y hy=>SD.ss y (by rw [← hy,List.getD_eq_getElem?_getD,List.getElem?_eq_getElem hk']; exact List.getElem_mem _)).le (by lia))⟩
   refine ⟨_,rfl,rfl,_,rfl,ite2 (fun c=>?_) (fun c=>?_)⟩
   ·refine ⟨_,rfl,_,rfl,_,rfl,_,rfl,a,_,rfl,.inr (SqT.of ha1),p,_,rfl,x0,by lia,hp1,fun d H2 hd s2 hp2=>?_⟩
    refine ⟨a,_,_,_,rfl,rfl,SqT.of (s2 _ _ ha1 nha),aP (List.getElem?_eq_getElem hd),by show 2 ≤ sizeLine; decide,fin _ H2 (s1.trans s2) hp2 ((hxs _ (List.getElem_mem hd)).keep (keepE (s1.trans s2)))⟩
   ·exact ⟨_,rfl,_,rfl,_,rfl,p,n,rfl,n1,by lia,hp1,fun d H2 hd s2 hp2=>⟨by show 2 ≤ sizeLine; decide,fin _ H2 (s1.trans s2) hp2 ((eH (.inl (by lia))).le (by lia))⟩⟩
  ·intro N' hN'
   refine ⟨_,rfl,_,_,rfl,rfl,_,rfl,ite2 (fun c=>?_) (fun c=>iteF (hN' _ _ ⟨rfl,rfl⟩))⟩
   refine ⟨_,rfl,_,rfl,sa,_,_,_,rfl,rfl,SqT.of hsa1,aP (gQ hk'),rfl,_,rfl,?_⟩
   cases ho : st.getD k none with
   | none=>exact iteF (hN' _ _ ⟨rfl,rfl⟩)
   | some h =>
    have om : some h∈st:=by rw [← ho,List.getD_eq_getElem?_getD,List.getElem?_eq_getElem hk']; exact List.getElem_mem _
    have hh : h < n:=SD.ss h om
    have lp : 0 < (outN n ts h).length:=Nat.lt_of_lt_of_le (List.count_pos_iff.mpr om) (SD.cap h hh)
    have lu:=wZ (n:=n) (ts:=ts) (h:=h)
    have R1 : bT H1 L r n (outN n ts):=R0.keep hLr fun b o l e=>s1 b o e fun z=>hLp (z ▸ l)
    obtain ⟨bs,b1,b2,b3⟩:=R1
    have oi : (st.map oV)[k]? = some (.int (h : Int)):=by rw [gQ hk',ho]; rfl
    have gb:=rT (bs:=bs) (h:=h) (by rw [b3.1]; exact hh)
    have hbL : bs.getD h 0 ≠ p:=fun z=>hLp (z ▸ b2 _ (oR (by rw [b3.1]; exact hh)))
    refine fN rfl ⟨_,rfl,_,rfl,_,rfl,_,rfl,sa,_,_,_,rfl,rfl,SqT.of hsa1,aP oi,r,_,_,_,rfl,rfl,SqL.of b1,aP gb,_,rfl,_,rfl,_,rfl,_,rfl,sa,_,_,_,rfl,rfl,SqT.of hsa1,aP oi,r,_,_,_,rfl,rfl,SqL.of b1,aP gb,_,_,rfl,.inl (SqL.of (b3.2 h hh)),p,_,rfl,by rw [bD]; exact lp,by rw [bD]; lia,hp1,fun d H2 hd s2 hp2=>?_⟩
    rw [bD] at hd
    refine ⟨_,_,_,_,rfl,rfl,SqL.of (s2 _ _ (b3.2 h hh) hbL),aP (eA hd),by show 2 ≤ sizeLine; decide,fin _ H2 (s1.trans s2) hp2 ((eH (.inl ?_)).le (by lia))⟩
    have:=aA7 (ts:=ts) (h:=h) (x:=(outN n ts h).getD d 0) n1 (by rw [List.getD_eq_getElem?_getD,List.getElem?_eq_getElem hd]; exact List.getElem_mem _)
    lia
end
end K12
namespace L2
open PySem PySem.Spec PyProof.Rows
theorem aBa {R : V→PyData→Prop} : ∀ {xs : List V} {ds : List PyData},F2 R xs ds→∀ x∈xs,∃ d,R x d∧d.weight ≤ PyData.weightAll ds
 | _,_,.cons (d:=d) (ds:=ds) h hs,x,hx=>by
  have e : PyData.weightAll (d :: ds) = d.weight + 1 + PyData.weightAll ds:=by rw [PyData.weightAll]
  rcases List.mem_cons.mp hx with rfl | hx
  ·exact ⟨_,h,by lia⟩
  ·obtain ⟨d',a,b⟩:=aBa hs x hx
   exact ⟨d',a,by lia⟩
end L2
namespace K12
open PySem L2 NetM
abbrev oT : Stmt:=top 41
abbrev uN : Stmt:=top 42
def Rwv (p : Addr) (H : Hp) (N m e : Nat) (x : V) : Prop:=∃ a xs,x = .ref a∧a ≠ p∧H a = some (.tup xs)∧xs.length ≤ m∧∀ y∈xs,Sw (· ≠ p) H N e y
def NT' (K : PySem.W.Frag) (H : Hp) (x : V) : Prop:=∃ t,TyX K H x t∧PySem.W.kitOne K t (.type "tuple") = some false
def BeR (K : PySem.W.Frag) (p : Addr) (H : Hp) (N m e : Nat) (x : V) : Prop:=Rwv p H (N + 1) (m + 1) e x∨Rwv p H (N + 1) 1 (m * (e + 1) + 201) x∨(NT' K H x∧Sw (· ≠ p) H (N + 2) (m * (e + 1) + 201) x)
theorem aEL {K : PySem.W.Frag} {p : Addr} {H : Hp} {v : V} (h : Sw (· ≠ p) H 1 201 v) (pl : Pl p H v) : Rwv p H 1 1 201 v∨NT' K H v:=by
 obtain ⟨d,sh,w⟩:=h
 rcases sh with (⟨rfl,_⟩ | ⟨c,rfl,_⟩ | ⟨i,rfl,_⟩ | ⟨z,rfl,_⟩ | ⟨a,rfl,_,l,h⟩) | ⟨a,xs,ds,rfl,rfl,l,h,hs⟩ | ⟨a,xs,ds,rfl,_,l,h,hs,_⟩
 ·exact .inr ⟨_,.of .non,by kernel_rfl⟩
 ·exact .inr ⟨_,.of (.bl _),by kernel_rfl⟩
 ·exact .inr ⟨_,.of (.int _),by kernel_rfl⟩
 ·exact .inr ⟨_,.of (.str _),by kernel_rfl⟩
 ·exact .inr ⟨_,.of (.dK h),by kernel_rfl⟩
 ·have w' : PyData.weightAll ds ≤ 201:=by unfold PyData.weight at w; exact w
  refine .inl ⟨a,xs,rfl,l,h,?_,fun y hy=>?_⟩
  ·rcases pl with pl | ⟨a',o,ea,_,g,hl⟩
   ·exact absurd rfl (pl a)
   ·cases ea
    rw [h] at g
    cases g
    exact hl xs rfl
  ·obtain ⟨d,a1,a2⟩:=aBa hs y hy
   exact Sw.up ⟨d,a1,Nat.le_trans a2 w'⟩
 ·exact .inr ⟨_,.of (.lst h),by kernel_rfl⟩
def aEM : Stmt→Expr
 | .If t _ _ _=>t
 | _=>.Constant .none 0 ⟨0,0,0,0⟩
def ifR : Stmt→Expr
 | .If _ [.Return (some e) _] _ _=>e
 | _=>.Constant .none 0 ⟨0,0,0,0⟩
def subI : Expr→Expr
 | .Subscript _ i _=>i
 | _=>.Constant .none 0 ⟨0,0,0,0⟩
def subL : Expr→List Expr
 | .Subscript (.List es _) _ _=>es
 | _=>[]
abbrev bb (i : Nat) : Stmt:=(bQ oT).getD i (.Pass ⟨0,0,0,0⟩)
theorem aBb : ∃ es os q1 q2 q3 q4 a1 a2 a3 b1 b2 b3,bQ oT = [bb 0,bb 1,.If (aEM (bb 2)) [.Return (some (.Subscript (.List (es ++ [.Call (.Name "list" b1) [.Name "_law_thing" b2] [] b3,.Tuple [.Name "_law_thing" a1] a2 a3]) q1) (subI (ifR (bb 2))) q2)) q3] [] q4,bb 3,bb 4,bb 5]∧rdOs es = some os∧(∀ o∈os,okO 1 o = true)∧os.length = 6 :=
 ⟨(subL (ifR (bb 2))).take 6,[.non,.int 3,.str "",.dct0,.tup0,.lst0],_,_,_,_,_,_,_,_,_,_,rfl,by kernel_rfl,by decide +kernel,rfl⟩
section
variable {P : Program} {w : World} {K : PySem.W.Frag} {mg : Str→Option Value} {base : Heap}
theorem oU : aZ ["_law_pot_here", "_law_way", "_law_n", "_law_outs_here", "_law_stand_here", "_law_thing", "_law_at", "_law_one"] ["_law_pot_here", "_law_way", "_law_n", "_law_outs_here", "_law_stand_here", "_law_thing"] (aM oT):=⟨rfl,rfl,rfl,by decide +kernel,rfl,by decide +kernel,by decide +kernel⟩
def uO (K : PySem.W.Frag) : Sp:=fun vs H Q _=>∃ (p : Addr) (way n : Nat) (r : Addr) (ts : Ts) (L : Addr→Prop) (sa : Addr) (homes : List Nat) (st : List (Option Nat)) (a : Addr) (xs : List V) (N m e : Nat),vs = [.ref p,.int way,.int n,.ref r,.ref sa,.ref a]∧1 ≤ n∧n ≤ 32∧bC H p∧bT H L r n (outN n ts)∧L r∧¬ L p∧H sa = some (.tup (st.map oV))∧Stnd n ts homes st∧H a = some (.tup xs)∧xs.length ≤ m∧m ≤ 17∧201 ≤ e∧(∀ x∈xs,Sw (· ≠ p) H N e x) ∧
 ∀ (x : V) (H' : Hp),aK p H H'→bC H' p→BeR K p H' N m e x→Q x H'
theorem aDp {f : Addr} {fd : FuncData} (F : Fun K "_law_bent" "_law_bent" oT f fd) (B : Bl mg) (D : Cal P w K mg base CX0 1 "_law_take" ["_law_pot_here", "_law_many"] cY) (OT : Cal P w K mg base CX0 3 "_law_other" ["_law_pot_here", "_law_way", "_law_n", "_law_outs_here", "_law_stand_here", "_law_thing"] qC) : FnOk P w K mg base CX0 4 f fd ["_law_pot_here", "_law_way", "_law_n", "_law_outs_here", "_law_stand_here", "_law_thing"] (uO K):=by
 refine F.ok oU (fun vs H Q E h=>?_) (fun cdv A outer s H vs Q E hr h=>?_)
 ·obtain ⟨p,way,n,r,ts,L,sa,homes,st,a,xs,N,m,e,rfl,_⟩:=h
  rfl
 ·obtain ⟨p,way,n,r,ts,L,sa,homes,st,a,xs,N,m,e,rfl,n1,n2,hp,R0,hLr,hLp,hsa,SD,ha,xl,m17,he,hxs,q⟩:=h
  have h1 : Room 1 _:=hr.mono (by decide)
  obtain ⟨es,os,q1,q2,q3,q4,a1,a2,a3,b1,b2,b3,eb,hes,hos,ol⟩:=aBb
  rw [eb]
  refine ⟨_,(aE (bG (PW.pt (nC (aQ cP (pv 1) aI (aV _)) (jV (aQ (aDm hr.u) (pv 5) (bA aB) (aV _))))) (aG (aU (aY lS (pv 5) (bA (aA (aX bB (bW (aA cB (aA aI (aA aI (aA eS aB))))) (aO D h1 aR (aA (pv 0) (aA aI aB))) (fun _ _=>rfl)) aB))))) aW)
   (aE (bG (aQ cP (pv 1) aI (aV _)) (aE (aS (i:=6) oU.nd rfl (Or.inl rfl) (aO D h1 aR (aA (pv 0) (aA (aN aT (by rfl) B.len PySem.boot_len (aA (pv 5) aB)) aB))))
    (aG (aU (aY lS (fR lT (pv 5) gU (gW (pv 6))) (fR lT (pv 5) (gW (aY cJ (pv 6) aI)) gU))))) aW)
   (aE (bG (aQ cP (pv 1) aI (aV _)) (aG (aU (aX bB (bW (zG hes (aA (cT zD (by rfl) B.lst PyProof.Rows.boot_list (aA (pv 5) aB)) (aA (bA (aA (pv 5) aB)) aB)))) (aO D h1 aR (aA (pv 0) (aA aI aB))) (fun _ _=>rfl)))) aW)
   (aE (bG (aQ gE (aN aT (by rfl) B.len PySem.boot_len (aA (pv 5) aB)) (aN aT (by rfl) B.len PySem.boot_len (aA (pv 4) aB)) (aV _)) (aG (aU (pv 5))) aW)
   (aE (cV (aO OT hr aR (aA (pv 0) (aA (pv 1) (aA (pv 2) (aA (pv 3) (aA (pv 4) (aA (pv 5) aB))))))) (dH (n:=2) rfl (bF (aL (i:=6) oU.nd rfl (Or.inl rfl)) (bF (aL (i:=7) oU.nd rfl (Or.inl rfl)) cN))))
   (aG (aU (aY lS (aY lS (fR lT (pv 5) gU (gW (pv 6))) (bA (aA (pv 7) aB))) (fR lT (pv 5) (gW (aY cJ (pv 6) aI)) gU))))))))),?_⟩
  have nsa:=hp.neT hsa
  have nha:=hp.neT ha
  have fin : ∀ (r' : Addr) (ys : List V) (H' : Hp),aK p H H'→bC H' p→H' r' = some (.tup ys)→ys.length ≤ m + 1→(∀ y∈ys,y∈xs∨Sw (· ≠ p) H' (N + 1) e y)→Q (.ref r') H':=fun r' ys H' s' hp' h' hl hy =>
   q _ H' s' hp' (.inl ⟨r',ys,rfl,hp'.neT h',h',hl,fun y z=>(hy y z).elim (fun z=>((hxs y z).keep (keepE s')).up) id⟩)
  have more : ∀ H4,Same H H4→tRet (tOp aCh (tVar 5) (tTup (bE (tOp (rIxL K) (tLst (bE (tC .non) (bE (tC (.int 0)) (bE (tC (.int 1)) (bE (tC (.str "w")) tNil))))) (lE cY [] E0 (bE (tVar 0) (bE (tC (.int 4)) tNil)))) tNil))) { nx:=fun _ H'=>Q .non H',rt:=Q } [some (.ref p),some (.int (way : Int)),some (.int (n : Int)),some (.ref r),some (.ref sa),some (.ref a),none,none] H4:=fun H4 s4=>by
   have hp4:=hp.same s4
   refine ⟨_,rfl,by show 4 ≤ sizeLine; decide,fun C hC=>⟨_,rfl,p,4,rfl,by decide,by decide,hp4.same (aF hC),fun d H5 hd s5 hp5=>?_⟩⟩
   have hCp:=hp4.ne hC
   have all : ∀ d,d < 4→∃ v,([V.non,.int 0,.int 1,.str "w"] : List V)[d]? = some v∧∀ (H' : Hp),Sw (· ≠ p) H' (N + 1) 200 v:=fun d hd=>by
    match d,hd with
    | 0,_=>exact ⟨_,rfl,fun H'=>oQ⟩
    | 1,_=>exact ⟨_,rfl,fun H'=>eH (.inl (by decide))⟩
    | 2,_=>exact ⟨_,rfl,fun H'=>eH (.inl (by decide))⟩
    | 3,_=>exact ⟨_,rfl,fun H'=>aA2 (.inl rfl)⟩
   obtain ⟨v,hv,shv⟩:=all d hd
   refine ⟨C,_,_,v,rfl,rfl,SqL.of (s5 _ _ aD hCp),aP hv,by show 1 ≤ sizeLine; decide,fun t2 ht2=>?_⟩
   have s6:=aF (o:=.tup [v]) ht2
   have sH5 : aK p H _:=(((aK.of s4).trans (aK.of (aF hC))).trans s5).trans (aK.of s6)
   refine ⟨a,t2,_,[v],rfl,rfl,sH5 _ _ ha nha,aD,Nat.le_trans (show _ ≤ 18 from Nat.add_le_add_right (Nat.le_trans xl m17) 1) (by decide),fun r' H6 s7 h6=>?_⟩
   refine fin r' _ H6 (sH5.trans (aK.of s7)) ((hp5.same s6).same s7) h6 (by rw [List.length_append]; exact Nat.add_le_add_right xl 1) fun x hx=>?_
   rcases List.mem_append.mp hx with z | z
   ·exact .inl z
   ·rw [List.mem_singleton.mp z]; exact .inr ((shv H6).le (by lia))
  refine ⟨_,rfl,rfl,_,rfl,ite2 (fun c1=>iteT (more _ (Same.refl _))) (fun c1=>?_)⟩
  refine ⟨_,rfl,by show 0 ≤ sizeLine; decide,fun t0 ht0=>?_⟩
  have s0:=aF (o:=.tup []) ht0
  refine ⟨a,t0,_,rfl,rfl,SqT.of (s0 _ _ ha),SqT.of aD,_,rfl,ite2 (fun c2=>more _ s0) (fun c2=>?_)⟩
  have x0 : 0 < xs.length:=by
   rcases xs with _ | ⟨x,xs⟩
   ·exact absurd rfl c2
   ·simp
  have hp0:=hp.same s0
  generalize upd H t0 _ = H0 at *
  have ha0:=s0 _ _ ha
  have hsa0:=s0 _ _ hsa
  unfold xB
  refine ⟨_,rfl,rfl,_,rfl,ite2 (fun c3=>?_) (fun c3=>?_)⟩
  ·refine ⟨_,rfl,_,rfl,a,_,rfl,.inr (SqT.of ha0),p,_,rfl,x0,by lia,hp0,fun k H1 hk s1 hp1=>?_⟩
   have sH1:=(aK.of s0).trans s1
   have ha1:=sH1 _ _ ha nha
   have ea : (k : Int) + 1 = ((k + 1 : Nat) : Int):=by lia
   refine ⟨_,rfl,_,rfl,_,rfl,a,_,rfl,ha1,fun r1 H6 s6 h6=>?_⟩
   refine ⟨_,rfl,_,rfl,_,_,rfl,rfl,_,rfl,a,_,rfl,s6 _ _ ha1,fun r2 H7 s7 h7=>⟨r1,r2,_,_,rfl,rfl,s7 _ _ h6,h7,?_,fun r3 H8 s8 h8=>?_⟩⟩
   ·rw [kZ,ea,jQ,List.length_drop]
    have:=List.length_take_le' k xs
    exact Nat.le_trans (show _ ≤ 40 by lia) (by decide)
   ·rw [kZ,ea,jQ] at h8
    refine fin r3 _ H8 (sH1.trans (aK.of ((s6.trans s7).trans s8))) (((hp1.same s6).same s7).same s8) h8 ?_ fun x hx=>.inl ?_
    ·rw [List.length_append,List.length_take,List.length_drop]; lia
    ·exact (List.mem_append.mp hx).elim List.mem_of_mem_take List.mem_of_mem_drop
  refine ⟨_,rfl,rfl,_,rfl,ite2 (fun c4=>?_) (fun c4=>?_)⟩
  ·refine zH (p:=p) (n:=1) hos hp0.full fun vs H1 s1 vl hv=>?_
   have sH1:=s0.trans s1
   have hp1:=hp0.same s1
   refine ⟨_,rfl,a,xs,rfl,sH1 _ _ ha,fun l hl ns=>⟨_,rfl,by show 1 ≤ sizeLine; decide,fun t ht=>?_⟩⟩
   have s2:=aF (o:=.lst xs) hl
   have hp2:=hp1.same s2
   have s3:=aF (o:=.tup [.ref a]) ht
   have nl:=hp1.ne hl
   have nt:=hp2.ne ht
   have gl:=s3 _ _ (aD (H:=H1) (a:=l) (o:=.lst xs))
   have gt:=aD (H:=upd H1 l (.lst xs)) (a:=t) (o:=.tup [.ref a])
   have sH3:=(sH1.trans s2).trans s3
   have s13:=s2.trans s3
   have hp3:=hp2.same s3
   generalize upd (upd H1 l _) t _ = H3 at *
   refine ⟨by rw [List.length_append,vl,ol]; show 8 ≤ sizeLine; decide,fun Ls hLs=>?_⟩
   have wl : (vs ++ [V.ref l,.ref t]).length = 8:=by rw [List.length_append,vl,ol]; rfl
   have s4:=aF (o:=.lst (vs ++ [V.ref l,.ref t])) hLs
   have nLs:=hp3.ne hLs
   refine ⟨_,rfl,p,8,rfl,by decide,by decide,hp3.same s4,fun d H5 hd s5 hp5=>?_⟩
   rw [← wl] at hd
   have sH5:=(aK.of (sH3.trans s4)).trans s5
   have k3 : ∀ b o,b ≠ p→H3 b = some o→H5 b = some o:=fun b o n e=>s5 _ _ (s4 _ _ e) n
   refine ⟨Ls,_,_,(vs ++ [V.ref l,.ref t])[d],rfl,rfl,SqL.of (s5 _ _ aD nLs),aP (List.getElem?_eq_getElem hd),q _ H5 sH5 hp5 ?_⟩
   have hm:=List.getElem_mem hd
   generalize (vs ++ [V.ref l,.ref t])[d] = v at *
   have wx : xs.length * (e + 1) ≤ m * (e + 1):=Nat.mul_le_mul_right _ xl
   have hx5 : ∀ x∈xs,Sw (· ≠ p) H5 N e x:=fun x hx=>(hxs x hx).keep (keepE sH5)
   rcases List.mem_append.mp hm with z | z
   ·obtain ⟨sw,pl⟩:=hv v z
    have sw5 : Sw (· ≠ p) H5 1 201 v:=sw.keep fun b o n e _=>k3 b o n (s13 _ _ e)
    rcases aEL (K:=K) sw5 (pl.keep fun b o n e=>k3 b o n (s13 _ _ e)) with ⟨b,ys,rfl,nb,hb,hl',hy⟩ | nt'
    ·exact .inl ⟨b,ys,rfl,nb,hb,by lia,fun y hy'=>((hy y hy').ups (by lia)).le he⟩
    ·exact .inr (.inr ⟨nt',(sw5.ups (by lia)).le (by lia)⟩)
   ·rcases List.mem_cons.mp z with rfl | z
    ·have g5:=k3 _ _ nl gl
     exact .inr (.inr ⟨⟨_,.of (.lst g5),by kernel_rfl⟩,((aA1 (L:=(· ≠ p)) nl ns g5 hx5).up).le (by lia)⟩)
    ·rw [List.mem_singleton.mp z]
     have g5:=k3 _ _ nt gt
     refine .inr (.inl ⟨t,_,rfl,nt,g5,Nat.le_refl 1,fun y hy=>?_⟩)
     rw [List.mem_singleton.mp hy]
     exact (oP (L:=(· ≠ p)) nha (sH5 _ _ ha nha) hx5).le (by lia)
  refine ⟨_,rfl,a,_,rfl,.inr (SqT.of ha0),_,rfl,sa,_,rfl,.inr (SqT.of hsa0),rfl,_,rfl,ite2 (fun c5=>?_) (fun c5=>?_)⟩
  ·exact ⟨_,rfl,fin a xs H0 (aK.of s0) hp0 ha0 (by lia) fun y hy=>.inl hy⟩
  have xe : xs.length = st.length:=by
   rw [List.length_map] at c5
   simp at c5
   lia
  have R1 : bT H0 L r n (outN n ts):=R0.keep hLr fun b o l e=>s0 b o e
  refine ⟨_,rfl,_,rfl,_,rfl,_,rfl,_,rfl,_,rfl,p,way,n,r,ts,L,sa,homes,st,a,xs,N + 1,e,rfl,n1,n2,hp0,R1,hLr,hLp,hsa0,SD,ha0,x0,xe,by lia,he,fun x hx=>((hxs x hx).keep (Keep.of s0)).up,fun t k x H1 s1 hp1 ht hk sw=>?_⟩
  have sH1:=(aK.of s0).trans s1
  have ha1:=sH1 _ _ ha nha
  refine ⟨t,_,rfl,SqT.of ht,rfl,_,_,rfl,_,_,rfl,rfl,?_⟩
  have ea : (k : Int) + 1 = ((k + 1 : Nat) : Int):=by lia
  refine ⟨_,rfl,_,rfl,_,rfl,a,_,rfl,ha1,fun r1 H2 s2 g1=>?_⟩
  rw [kZ] at g1
  refine ⟨_,rfl,by show 1 ≤ sizeLine; decide,fun t' ht'=>?_⟩
  have s3:=aF (o:=.tup [x]) ht'
  refine ⟨r1,t',_,[x],rfl,rfl,s3 _ _ g1,aD,?_,fun r2 H4 s4 g2=>?_⟩
  ·have:=List.length_take_le' k xs
   rw [List.length_singleton]
   exact Nat.le_trans (show _ ≤ 40 by lia) (by decide)
  have s24:=(s2.trans s3).trans s4
  refine ⟨_,rfl,_,rfl,_,_,rfl,rfl,_,rfl,a,_,rfl,s24 _ _ ha1,fun r3 H5 s5 g3=>⟨r2,r3,_,_,rfl,rfl,s5 _ _ g2,g3,?_,fun r4 H6 s6 g4=>?_⟩⟩
  ·rw [ea,jQ,List.length_append,List.length_drop,List.length_singleton]
   have:=List.length_take_le' k xs
   exact Nat.le_trans (show _ ≤ 60 by lia) (by decide)
  ·rw [ea,jQ] at g4
   have s26:=(s24.trans s5).trans s6
   refine fin r4 _ H6 (sH1.trans (aK.of s26)) (hp1.same s26) g4 ?_ fun y hy=>?_
   ·rw [List.length_append,List.length_append,List.length_take,List.length_drop,List.length_singleton]; lia
   ·rcases List.mem_append.mp hy with z | z
    ·rcases List.mem_append.mp z with z | z
     ·exact .inl (List.mem_of_mem_take z)
     ·rw [List.mem_singleton.mp z]; exact .inr (sw.keep (Keep.of s26))
    ·exact .inl (List.mem_of_mem_drop z)
theorem qD : aZ ["_law_pot_here", "_law_ways", "_law_n", "_law_outs_here", "_law_stand_here", "_law_thing", "_law_way"] ["_law_pot_here", "_law_ways", "_law_n", "_law_outs_here", "_law_stand_here", "_law_thing"] (aM uN):=⟨rfl,rfl,rfl,by decide +kernel,rfl,by decide +kernel,by decide +kernel⟩
def Bn : Nat→Nat
 | 0=>3232
 | i + 1=>2 * Bn i + 202
def Tg (K : PySem.W.Frag) (p : Addr) (H : Hp) (i : Nat) (x : V) : Prop:=(∃ m e,Rwv p H i m e x∧201 ≤ e∧e ≤ Bn i∧m ≤ 16 + i∧m * (e + 1) ≤ Bn i)∨(NT' K H x∧Sw (· ≠ p) H (i + 1) (Bn i) x)
theorem Tg.next {p : Addr} {H : Hp} {i : Nat} {x : V} (h : Tg K p H i x) : Tg K p H (i + 1) x:=by
 have b : Bn (i + 1) = 2 * Bn i + 202:=rfl
 rcases h with ⟨m,e,⟨a,xs,e1,e2,e3,e4,e5⟩,h1,h2,h3,h4⟩ | ⟨h1,h2⟩
 ·exact .inl ⟨m,e,⟨a,xs,e1,e2,e3,e4,fun y hy=>(e5 y hy).up⟩,h1,by lia,by lia,by lia⟩
 ·exact .inr ⟨h1,h2.up.le (by lia)⟩
theorem Tg.bent {p : Addr} {H : Hp} {i m e : Nat} {x : V} (h : BeR K p H i m e x) (h1 : 201 ≤ e) (h2 : e ≤ Bn i) (h3 : m ≤ 16 + i) (h4 : m * (e + 1) ≤ Bn i) : Tg K p H (i + 1) x:=by
 have b : Bn (i + 1) = 2 * Bn i + 202:=rfl
 rcases h with h | h | ⟨h,h'⟩
 ·exact .inl ⟨m + 1,e,h,h1,by lia,by lia,by rw [Nat.succ_mul]; lia⟩
 ·exact .inl ⟨1,_,h,by lia,by lia,by lia,by lia⟩
 ·exact .inr ⟨h,h'.le (by lia)⟩
def qE : Sp:=fun vs H Q _=>∃ (p wa : Addr) (ws : List Nat) (n : Nat) (r : Addr) (ts : Ts) (L : Addr→Prop) (sa : Addr) (homes : List Nat) (st : List (Option Nat)) (x0 : V),vs = [.ref p,.ref wa,.int n,.ref r,.ref sa,x0]∧H wa = some (.lst (NV ws))∧wa ≠ p∧ws.length = 2∧1 ≤ n∧n ≤ 32∧bC H p∧bT H L r n (outN n ts)∧L r∧¬ L p∧H sa = some (.tup (st.map oV))∧Stnd n ts homes st∧Rwv p H 0 16 201 x0 ∧
 ∀ (x : V) (H' : Hp),aK p H H'→bC H' p→Sw (· ≠ p) H' 3 20000 x→Q x H'
theorem aB3 {f : Addr} {fd : FuncData} (F : Fun K "_law_twice_bent" "_law_twice_bent" uN f fd) (B : Bl mg) (BE : Cal P w K mg base CX0 4 "_law_bent" ["_law_pot_here", "_law_way", "_law_n", "_law_outs_here", "_law_stand_here", "_law_thing"] (uO K)) : FnOk P w K mg base CX0 5 f fd ["_law_pot_here", "_law_ways", "_law_n", "_law_outs_here", "_law_stand_here", "_law_thing"] qE:=by
 refine F.ok qD (fun vs H Q E h=>?_) (fun cdv A outer s H vs Q E hr h=>?_)
 ·obtain ⟨p,wa,ws,n,r,ts,L,sa,homes,st,x0,rfl,_⟩:=h
  rfl
 ·obtain ⟨p,wa,ws,n,r,ts,L,sa,homes,st,x0,rfl,hwa,nwa,wl,n1,n2,hp,R0,hLr,hLp,hsa,SD,T0,q⟩:=h
  refine ⟨_,(aE (cA PassesOwn.never rfl (cC (pv 1)) (aL (i:=6) qD.nd rfl (Or.inl rfl))
    (aG (bG (PW.pt (eT (aQ gG (pv 6) aI (aV _)) (eJ (cU (aN dM (by rfl) B.isi PyProof.Rows.boot_isinstance (aA (pv 5) (aA (eI (v:=.ty "tuple") rfl B.tup PyProof.Rows.boot_tuple rfl) aB))))))) (aG (aS (i:=5) qD.nd rfl (Or.inl rfl) (aO BE hr aR (aA (pv 0) (aA (pv 6) (aA (pv 2) (aA (pv 3) (aA (pv 4) (aA (pv 5) aB))))))))) aW)))
   (aG (aU (pv 5)))),?_⟩
  have nsa:=hp.neT hsa
  refine ⟨_,rfl,wa,rfl,⟨_,SqL.of hwa⟩,jH (K:=K) (xs:=NV ws) (fun i σ Hc=>∃ x,(∃ u,σ = [some (.ref p),some (.ref wa),some (.int (n : Int)),some (.ref r),some (.ref sa),some x,u])∧aK p H Hc∧bC Hc p∧Tg K p Hc i x) ⟨x0,⟨_,rfl⟩,aK.refl,hp,.inl ⟨16,201,T0,by decide,by decide,by decide,by decide⟩⟩ (fun i σ Hc _ z=>by obtain ⟨_,_,z,_⟩:=z; exact SqL.of (z _ _ hwa nwa)) ?_ ?_⟩
  ·rintro i wv σ Hc hw ⟨x,⟨u,rfl⟩,sc,hpc,tg⟩
   obtain ⟨way,hw',rfl⟩:=yN hw
   have hi : i < 2:=by rw [← wl]; exact (List.getElem?_eq_some_iff.mp hw').1
   refine ⟨_,rfl,_,_,rfl,rfl,_,rfl,ite2 (fun c=>?_) (fun c=>iteF ⟨x,⟨_,rfl⟩,sc,hpc,tg.next⟩)⟩
   rcases id tg with ⟨m,e,⟨a,xs,rfl,na,ha,xl,hxs⟩,h1,h2,h3,h4⟩ | ⟨⟨t,ty,kt⟩,_⟩
   ·refine ⟨_,rfl,_,_,_,.type "tuple",true,rfl,⟨rfl,lR⟩,.of (.tup ha),_,rfl,iteT ?_⟩
    have R1 : bT Hc L r n (outN n ts):=R0.keep hLr fun b o l e=>sc b o e fun z=>hLp (z ▸ l)
    exact ⟨_,rfl,_,rfl,_,rfl,_,rfl,_,rfl,_,rfl,p,way,n,r,ts,L,sa,homes,st,a,xs,i,m,e,rfl,n1,n2,hpc,R1,hLr,hLp,sc _ _ hsa nsa,SD,ha,xl,by lia,h1,hxs,fun y H2 s2 hp2 be=>⟨y,⟨_,rfl⟩,sc.trans s2,hp2,Tg.bent be h1 h2 h3 h4⟩⟩
   ·exact ⟨_,rfl,_,_,_,t,false,rfl,⟨rfl,kt⟩,ty,_,rfl,iteF ⟨x,⟨_,rfl⟩,sc,hpc,tg.next⟩⟩
  ·rintro σ Hc ⟨x,⟨u,rfl⟩,sc,hpc,tg⟩
   rw [bD,wl] at tg
   have b2 : Bn 2 ≤ 20000:=by decide
   refine ⟨_,rfl,q x Hc sc hpc ?_⟩
   rcases tg with ⟨m,e,⟨a,xs,rfl,na,ha,xl,hxs⟩,h1,h2,h3,h4⟩ | ⟨_,sw⟩
   ·exact (oP (L:=(· ≠ p)) na ha hxs).le (Nat.le_trans (Nat.mul_le_mul_right _ xl) (by lia))
   ·exact sw.le b2
end
end K12
namespace L2
open PySem PySem.Spec PyProof.Rows
section
variable {X : Cx}
theorem aDq {H : Hp} {z : Str} : EqD X H 0 (.str z) (.str z):=by
 intro pins s σ A u v I hu rx ry
 have h:=nM (A:=A) (s:=s) rx ry rfl rfl
 rw [show eqV (.str z) (.str z) = true by show (z == z) = true; simp] at h
 exact h
theorem aEd (hu : X.A.units + 2 < cLine) : OpR X (compareOp .NotEq) (fun x y H Q=>rNe x y H Q∨rTEq X true 0 x y H Q):=by
 intro pins s σ H x y v u Q I rx ry h
 rcases h with h | h
 ·exact gE pins s σ H x y v u Q I rx ry h
 ·exact aC6 (by lia) pins s σ H x y v u Q I rx ry h
end
end L2
namespace K12
open PySem L2 NetM
abbrev sLaw : Stmt:=top 45
theorem aEe {X : Cx} {H : Hp} {s : Str} {l : List Nat} {Q : VK} {a b : Addr} (ha : H a = some (.tup (.str s :: NV l))) (hb : H b = some (.tup (.str s :: NV l))) (q : Q (.bl false) H) : rTEq X true 0 (.ref a) (.ref b) H Q:=by
 refine ⟨a,b,_,_,rfl,rfl,SqT.of ha,SqT.of hb,rfl,fun i h1 _=>?_,q⟩
 cases i with
 | zero=>exact aDq
 | succ i =>
  have hi : i < l.length:=by rw [List.length_cons,bD] at h1; lia
  have e : (V.str s :: NV l).getD (i + 1) .non = .int ((l.getD i 0 : Nat) : Int):=by
   rw [List.getD_eq_getElem?_getD,List.getElem?_cons_succ,eA hi]; rfl
  rw [e]
  exact aC5
section
variable {P : Program} {w : World} {K : PySem.W.Frag} {mg : Str→Option Value} {base : Heap}
def SqF (K : PySem.W.Frag) (H : Hp) (a : Addr) (xs : List V) : Prop:=(∃ o,H a = some (.frz o (.lst xs)))∨(∀ H' : Hp,SqL K H' a xs)
theorem SqF.seq {H : Hp} {a : Addr} {xs : List V} (h : SqF K H a xs) : SqL K H a xs:=by
 rcases h with ⟨o,h⟩ | h
 ·exact .inl (.inr ⟨o,h⟩)
 ·exact h H
theorem SqF.mono {H H' : Hp} {a : Addr} {xs : List V} (h : SqF K H a xs) (e : ∀ o u,H a = some (.frz o u)→H' a = some (.frz o u)) : SqF K H' a xs:=by
 rcases h with ⟨o,h⟩ | h
 ·exact .inl ⟨o,e _ _ h⟩
 ·exact .inr h
theorem Tab.keepE {p Pt : Addr} {H H' : Hp} (t : Tab Pt H) (s : aK p H H') (hp : bC H p) : Tab Pt H':=by
 obtain ⟨a,b,e,_⟩:=hp
 rcases t with z | ⟨c,z,y⟩
 ·exact .inl (s _ _ z (by rintro rfl; rw [z] at e; cases e))
 ·exact .inr ⟨c,s _ _ z (by rintro rfl; rw [z] at e; cases e),s _ _ y (by rintro rfl; rw [y] at e; cases e)⟩
theorem dR : aZ ["_law_script", "_law_k", "_law_pot_here", "_law_ways", "_law_n", "_law_ties", "_law_outs_here", "_law_homes", "_law_stand_here", "_law_thing", "_law_net_here", "_law_due", "_law_kept", "_law_turn", "_law_found"] ["_law_script"] (aM sLaw):=⟨rfl,rfl,rfl,by decide +kernel,rfl,by decide +kernel,by decide +kernel⟩
def rV (K : PySem.W.Frag) (Pt : Addr) : Sp:=fun vs H Q _=>∃ (a : Addr) (ns : List Int),vs = [.ref a]∧SqF K H a (ns.map V.int)∧ns.length ≤ 63∧Tab Pt H∧∀ H',Q (.bl true) H'
theorem aEf {f C Pt fI : Addr} {fd fdI : FuncData} (F : Fun K "law" "law" sLaw f fd) (B : Bl mg) (B2 : Bl2 mg) (T : NT K mg C) (M : Mk K C fI) (bI : fG K fdI ["self", "many", "ties"] []) (GI : FnOk P w K mg base CX0 7 fI fdI ["self", "many", "ties"] (tX C Pt))
  (PT : Cal P w K mg base CX0 1 "_law_pot" ["_law_script", "_law_k"] (yS K)) (D : Cal P w K mg base CX0 1 "_law_take" ["_law_pot_here", "_law_many"] cY) (NE : Cal P w K mg base CX0 4 "_law_net" ["_law_pot_here"] zC) (OU : Cal P w K mg base CX0 1 "_law_outs" ["_law_n", "_law_ties"] pU) (ST : Cal P w K mg base CX0 2 "_law_stand" ["_law_pot_here", "_law_n", "_law_outs_here"] pV)
  (RI : Cal P w K mg base CX0 2 "_law_right" ["_law_pot_here", "_law_outs_here", "_law_stand_here"] qB) (TB : Cal P w K mg base CX0 5 "_law_twice_bent" ["_law_pot_here", "_law_ways", "_law_n", "_law_outs_here", "_law_stand_here", "_law_thing"] qE) (LW : Cal P w K mg base CX0 2 "_law_wrong" ["_law_n", "_law_outs_here", "_law_stand_here", "_law_thing"] (nB K)) (WR : Cal P w K mg base CX0 7 "wrong" ["net", "homes", "stand", "thing"] (pZ K C)) :
  FnOk P w K mg base CX0 9 f fd ["_law_script"] (rV K Pt):=by
 refine F.ok dR (fun vs H Q E h=>?_) (fun cdv A outer s H vs Q E hr h=>?_)
 ·obtain ⟨a,ns,rfl,_⟩:=h
  rfl
 ·obtain ⟨a,ns,rfl,hS,hns,tb,q⟩:=h
  have h1 : Room 1 _:=hr.mono (by decide)
  have h2 : Room 2 _:=hr.mono (by decide)
  have h4 : Room 4 _:=hr.mono (by decide)
  have h5 : Room 5 _:=hr.mono (by decide)
  have h7 : Room 7 _:=hr.mono (by decide)
  refine ⟨_,(aE (cA PassesOwn.never rfl (bH rfl B.range (aA (aN (jZ rfl) (by rfl) B.max PyProof.Rows.boot_max (aA aI (aA (aN (qG rfl) (by rfl) B.min PyProof.Rows.boot_min (aA aI (aA (aN aT (by rfl) B.len PySem.boot_len (aA (pv 0) aB)) aB))) aB))) aB)) (aL (i:=1) dR.nd rfl (Or.inl rfl))
    (aE (aS (i:=2) dR.nd rfl (Or.inl rfl) (aO PT h1 aR (aA (pv 0) (aA (pv 1) aB))))
    (aE (aS (i:=3) dR.nd rfl (Or.inl rfl) (bW (aA (aO D h1 aR (aA (pv 2) (aA aI aB))) (aA (aO D h1 aR (aA (pv 2) (aA aI aB))) aB))))
    (aE (cV (aO NE h4 aR (aA (pv 2) aB)) (dH (n:=2) rfl (bF (aL (i:=4) dR.nd rfl (Or.inl rfl)) (bF (aL (i:=5) dR.nd rfl (Or.inl rfl)) cN))))
    (aE (aS (i:=6) dR.nd rfl (Or.inl rfl) (aO OU h1 aR (aA (pv 4) (aA (pv 5) aB))))
    (aE (cV (aO ST h2 aR (aA (pv 2) (aA (pv 4) (aA (pv 6) aB)))) (dH (n:=2) rfl (bF (aL (i:=7) dR.nd rfl (Or.inl rfl)) (bF (aL (i:=8) dR.nd rfl (Or.inl rfl)) cN))))
    (aE (aS (i:=9) dR.nd rfl (Or.inl rfl) (aO TB h5 aR (aA (pv 2) (aA (pv 3) (aA (pv 4) (aA (pv 6) (aA (pv 8) (aA (aO RI h2 aR (aA (pv 2) (aA (pv 6) (aA (pv 8) aB)))) aB))))))))
    (aE (aS (i:=10) dR.nd rfl (Or.inl rfl) (aCu M GI hr rfl T.mgC bI .nil aR (aA (pv 4) (aA (pv 5) aB))))
    (aE (aS (i:=11) dR.nd rfl (Or.inl rfl) (aO LW h2 aR (aA (pv 4) (aA (pv 6) (aA (pv 8) (aA (pv 9) aB))))))
    (aE (aS (i:=12) dR.nd rfl (Or.inl rfl) (aN (oH hr.gd hr.u) (by rfl) B2.repr PyProof.Rows.boot_repr (aA (pv 9) aB)))
    (aE (cA PassesOwn.never rfl (bH rfl B.range (aA aI aB)) (aL (i:=13) dR.nd rfl (Or.inl rfl))
     (aE (aS (i:=14) dR.nd rfl (Or.inl rfl) (aO WR h7 aR (aA (pv 10) (aA (pv 7) (aA (pv 8) (aA (pv 9) aB))))))
     (aG (bG (PW.pt (nC (aQ (aEd hr.u) (pv 14) (pv 11) (aV _)) (jV (PW.pt (eT (aQ iV (pv 14) cB (aV _)) (eJ (eC (cU (aN dM (by rfl) B.isi PyProof.Rows.boot_isinstance (aA (pv 14) (aA (eI (v:=.ty "tuple") rfl B.tup PyProof.Rows.boot_tuple rfl) aB))))))))))) (aG (aU lC)) aW))))
    (aG (bG (aQ gE (aN (oH hr.gd hr.u) (by rfl) B2.repr PyProof.Rows.boot_repr (aA (pv 9) aB)) (pv 12) (aV _)) (aG (aU lC)) aW)))))))))))))
   (aG (aU lC))),?_⟩
  refine ⟨_,rfl,a,_,rfl,.inl hS.seq,8,_,rfl,3,_,rfl,_,rfl,?_⟩
  obtain ⟨j,hj,j1⟩ : ∃ j : Int,(if (if (((ns.map V.int).length : Nat) : Int) < 8 then (((ns.map V.int).length : Nat) : Int) else 8) > 3 then (if (((ns.map V.int).length : Nat) : Int) < 8 then (((ns.map V.int).length : Nat) : Int) else 8) else 3) = j∧1 ≤ j∧j ≤ 8:=⟨_,rfl,by split <;> split <;> lia⟩
  rw [hj]
  refine ⟨by lia,by lia,bY (n:=j.toNat) (lo:=0) (fun k σ H2=>(∃ x1 x2 x3 x4 x5 x6 x7 x8 x9 x10 x11 x12 x13 x14,σ = [some (.ref a),x1,x2,x3,x4,x5,x6,x7,x8,x9,x10,x11,x12,x13,x14])∧SqF K H2 a (ns.map V.int)∧Tab Pt H2) ⟨⟨_,_,_,_,_,_,_,_,_,_,_,_,_,_,rfl⟩,hS,tb⟩ ?_ ?_⟩
  ·rintro k σ H2 hk ⟨⟨x1,x2,x3,x4,x5,x6,x7,x8,x9,x10,x11,x12,x13,x14,rfl⟩,S2,t2⟩
   refine ⟨_,rfl,_,rfl,a,ns,k,by rw [Int.zero_add]; rfl,S2.seq,by lia,fun p H3 s3 np p3=>?_⟩
   have S3 : SqF K H3 a (ns.map V.int):=S2.mono fun o u e=>s3 _ _ e
   have t3:=t2.same s3
   have np3 : ∀ {o u},H3 a = some (.frz o u)→a ≠ p:=fun e z=>by subst z; obtain ⟨x,y,e',_⟩:=p3; rw [e] at e'; cases e'
   refine ⟨_,rfl,p,13,rfl,by decide,by decide,p3,fun w1 H4 hw1 s4 p4=>⟨_,rfl,p,13,rfl,by decide,by decide,p4,fun w2 H4' hw2 s4' p4'=>⟨by show 2 ≤ sizeLine; decide,fun wa hwa=>?_⟩⟩⟩
   have sw:=aF (o:=.lst (NV [w1,w2])) hwa
   have nwa:=p4'.ne hwa
   change bL 3 (V.ref wa) _ (upd H4' wa (.lst (NV [w1,w2]))) _
   have gwa:=aD (H:=H4') (a:=wa) (o:=.lst (NV [w1,w2]))
   have p0:=p4'.same sw
   have s30:=(s4.trans s4').trans (aK.of sw)
   generalize upd H4' wa _ = H0 at *
   have t0:=t3.keepE s30 p3
   refine ⟨_,rfl,p,rfl,p0,fun tn r n zs H5 s5 p5 htn htn5 hrn hr5 po5 Fi=>?_⟩
   have t5:=t0.keepE s5 p0
   refine ⟨tn,_,rfl,SqT.of htn5,rfl,_,_,rfl,_,_,rfl,rfl,?_⟩
   refine ⟨_,rfl,_,rfl,n,r,zs,rfl,hr5,po5,Fi,fun oo H6 s6 hoo R6=>?_⟩
   have p6:=p5.same s6
   have n1 : 1 ≤ n:=by have:=Fi.n1; lia
   refine ⟨_,rfl,_,rfl,_,rfl,p,n,oo,zp zs,_,rfl,Fi.n1,Fi.n2,p6,R6,hoo,p5.full,fun t2' ha sa homes st H7 s7 p7 ht2 hha hsa SD=>?_⟩
   have s37 : aK p H3 H7:=((s30.trans s5).trans (aK.of s6)).trans s7
   have s07 : aK p H0 H7:=(s5.trans (aK.of s6)).trans s7
   have t7:=t3.keepE s37 p3
   have hr7:=s7 _ _ (s6 _ _ hr5) (p0.ne hrn)
   have po7:=(po5.same s6).sameE s7 p6
   have R7 : bT H7 (fun b=>H5 b = none) oo n (outN n (zp zs)):=R6.keep hoo fun b o l e=>s7 b o e fun z=>p5.full (z ▸ l)
   refine ⟨t2',_,rfl,SqT.of ht2,rfl,_,_,rfl,_,_,rfl,rfl,?_⟩
   refine ⟨_,rfl,_,rfl,_,rfl,_,rfl,_,rfl,_,rfl,_,rfl,_,rfl,p,oo,n,zp zs,_,sa,homes,st,rfl,n1,Fi.n2,p7,R7,hsa,SD,fun tr fs H8 s8 p8 htr fl hfs=>?_⟩
   have R8 : bT H8 (fun b=>H5 b = none) oo n (outN n (zp zs)):=R7.keep hoo fun b o l e=>s8 b o e fun z=>p5.full (z ▸ l)
   have rw0 : Rwv p H8 0 16 201 (.ref tr):=⟨tr,_,rfl,p8.neT htr,htr,by rw [List.length_map]; exact fl,fun y hy=>by
    obtain ⟨o,ho,rfl⟩:=List.mem_map.mp hy
    exact (sw_o Fi.n2 fun y hy=>hfs y (hy ▸ ho)).le (by decide)⟩
   refine ⟨p,wa,[w1,w2],n,oo,zp zs,_,sa,homes,st,.ref tr,rfl,s8 _ _ (s07 _ _ gwa nwa) nwa,nwa,rfl,n1,Fi.n2,p8,R8,hoo,p5.full,s8 _ _ hsa (p7.neT hsa),SD,rw0,fun x H9 s9 p9 swx=>?_⟩
   obtain ⟨d,sh9,hdw⟩:=swx
   have s79:=s8.trans s9
   have hr9:=s79 _ _ hr7 (p0.ne hrn)
   have po9:=po7.sameE s79 p7
   have t9:=t7.keepE s79 p7
   have hha9:=s79 _ _ hha (p7.neT hha)
   have hsa9:=s79 _ _ hsa (p7.neT hsa)
   have S9 : SqF K H9 a (ns.map V.int):=S3.mono fun o u e=>(s37.trans s79) _ _ e (np3 e)
   have R9 : bT H9 (fun b=>H5 b = none) oo n (outN n (zp zs)):=R7.keep hoo fun b o l e=>s79 b o e fun z=>p5.full (z ▸ l)
   dsimp only
   refine ⟨_,rfl,_,rfl,fun px dx nx ndx nex=>?_⟩
   have sN : Same H9 (upd (upd H9 dx (.own px)) px (.ins C dx [])):=(aF (o:=.own px) ndx).trans (aF (D:=px) (o:=.ins C dx []) (by rw [aH nex.symm]; exact nx))
   have gpx : (upd (upd H9 dx (.own px)) px (.ins C dx [])) px = some (.ins C dx []):=aD
   refine ⟨px,dx,n,r,zs,rfl,gpx,⟨Fi,sN _ _ hr9,po9.same sN⟩,t9.same sN,fun H10 N10 t10 s10=>⟨rfl,?_⟩⟩
   have tN:=t9.same sN
   have kp : ∀ b o,H9 b = some o→(∀ ps,o ≠ .tbl ps)→H10 b = some o:=fun b o e nt=>s10 b o (sN _ _ e) (aJ e nx) (tN.not (sN _ _ e) nt)
   have sh10:=sh9.keep fun b o _ e nt=>kp b o e nt
   have hha10:=kp _ _ hha9 (by intro ps z; cases z)
   have hsa10:=kp _ _ hsa9 (by intro ps z; cases z)
   have S10 : SqF K H10 a (ns.map V.int):=S9.mono fun o u e=>kp _ _ e (by intro ps z; cases z)
   have R10 : bT H10 (fun b=>H5 b = none) oo n (outN n (zp zs)):=by
    obtain ⟨bs,b1,b2,b3⟩:=R9
    exact ⟨bs,kp _ _ b1 (by intro ps z; cases z),b2,b3.mono fun j _ e=>kp _ _ e (by intro ps z; cases z)⟩
   obtain ⟨oth,hth⟩:=sh10.th (K:=K)
   refine ⟨_,rfl,_,rfl,_,rfl,_,rfl,n,oo,zp zs,_,sa,st,x,oth,rfl,R10,hsa10,SD.le,SD.ss,fun H' s'=>hth H' (Keep.of s'),fun due H11 s11 hdue=>?_⟩
   refine ⟨_,rfl,x,d,rfl,(sh10.keep (Keep.of s11)).repr (by decide) hdw,?_⟩
   refine ⟨2,rfl,by decide,by decide,bY (n:=2) (lo:=0) (fun i σ Hc=>(∃ y13 y14,σ = [some (.ref a),some (.int (0 + (k : Int))),some (.ref p),some (.ref wa),some (.int (n : Int)),some (.ref r),some (.ref oo),some (.ref ha),some (.ref sa),some x,some (.ref px),some due,some (.str d.shown),y13,y14])∧Same H10 Hc∧RsV Hc (wrB n (zp zs) st oth) due) ⟨⟨_,_,rfl⟩,s11,hdue⟩ ?_ ?_⟩
   ·rintro i σ Hc hi ⟨⟨y13,y14,rfl⟩,sc,hdc⟩
    refine ⟨_,rfl,_,rfl,_,rfl,_,rfl,_,px,n,zp zs,ha,homes,sa,st,x,oth,rfl,N10.same sc,sc _ _ hha10,SD.len,sc _ _ hsa10,SD.le,SD.ss,fun H' s'=>hth H' (Keep.of (sc.trans s')),fun fnd H12 s12 hf=>?_⟩
    have hd12:=hdc.same s12
    have fin : (∃ y13 y14,[some (.ref a),some (.int (0 + (k : Int))),some (.ref p),some (.ref wa),some (.int (n : Int)),some (.ref r),some (.ref oo),some (.ref ha),some (.ref sa),some x,some (.ref px),some due,some (.str d.shown),some (.int (0 + (i : Int))),some fnd] = [some (.ref a),some (.int (0 + (k : Int))),some (.ref p),some (.ref wa),some (.int (n : Int)),some (.ref r),some (.ref oo),some (.ref ha),some (.ref sa),some x,some (.ref px),some due,some (.str d.shown),y13,y14])∧Same H10 H12∧RsV H12 (wrB n (zp zs) st oth) due:=⟨⟨_,_,rfl⟩,sc.trans s12,hd12⟩
    refine ⟨_,rfl,_,rfl,?_⟩
    cases hw : wrB n (zp zs) st oth with
    | none =>
     rw [hw] at hf hd12
     obtain rfl : fnd = .non:=hf
     obtain rfl : due = .non:=hd12
     exact .inl ⟨rfl,_,rfl,iteF ⟨_,rfl,rfl,_,rfl,iteF (iteF (by rw [← hw]; exact fin))⟩⟩
    | some rs =>
     obtain ⟨z,l⟩:=rs
     rw [hw] at hf hd12
     obtain ⟨fa,rfl,gf⟩:=hf
     obtain ⟨da,rfl,gd⟩:=hd12
     refine .inr (aEe gf gd ⟨_,rfl,iteF ⟨_,rfl,rfl,_,rfl,fN rfl ⟨_,rfl,_,_,_,.type "tuple",true,rfl,⟨rfl,lR⟩,.of (.tup gf),_,rfl,iteF (by rw [← hw]; exact fin)⟩⟩⟩)
   ·rintro σ Hc ⟨⟨y13,y14,rfl⟩,sc,hdc⟩
    refine ⟨_,rfl,x,d,rfl,(sh10.keep (Keep.of sc)).repr (by decide) hdw,_,rfl,rfl,_,rfl,iL (by simp) ?_⟩
    exact ⟨⟨_,_,_,_,_,_,_,_,_,_,_,_,_,_,rfl⟩,S10.mono fun o u e=>sc _ _ e,t10.same sc⟩
  ·rintro σ H2 _
   exact q H2
end
end K12
namespace K12
open PySem L2 NetM
def FD (K : PySem.W.Frag) (n : Str) (st : Stmt) : Prop:=∃ (f : Addr) (oc : Value) (od an : Option Addr) (sl : Array (Option Value)) (kV dc pm cd ct : Value),PySem.W.nsIn K mainGlobals n = some (some (.ref f))∧K.lookup f = some ⟨oc,od,.func (PySem.W.fnOf n n (cK st) (bQ st) (aM st) .none kV dc pm an cd ct),sl⟩∧PySem.W.codeIn K cd n = true∧PySem.W.keepIn K (.ref f) = true
def FC (K : PySem.W.Frag) (n : Str) (st : Stmt) (c : Addr) : Prop:=∃ (f : Addr) (oc : Value) (od an : Option Addr) (sl : Array (Option Value)) (kV dc pm ct : Value),PySem.W.nsIn K mainGlobals n = some (some (.ref f))∧K.lookup f = some ⟨oc,od,.func (PySem.W.fnOf n n (cK st) (bQ st) (aM st) .none kV dc pm an (.ref c) ct),sl⟩∧PySem.W.codeIn K (.ref c) n = true∧PySem.W.keepIn K (.ref f) = true
def MD (K : PySem.W.Frag) (C : Addr) (n q : Str) (st : Stmt) : Prop:=∃ (f : Addr) (oc : Value) (od an : Option Addr) (sl : Array (Option Value)) (kV dc pm cd ct : Value),PySem.W.findIn K (.ref C) n = some (some (.ref f))∧PySem.W.isFn K (.ref f) = true∧K.lookup f = some ⟨oc,od,.func (PySem.W.fnOf n q (cK st) (bQ st) (aM st) .none kV dc pm an cd ct),sl⟩∧PySem.W.codeIn K cd q = true∧PySem.W.keepIn K (.ref f) = true
section
variable {P : Program} {w : World} {K : PySem.W.Frag} {mg : Str→Option Value} {base h : Heap} {n q : Str} {st : Stmt} {f c C : Addr} {oc kV dc pm cd ct : Value} {od an : Option Addr} {sl : Array (Option Value)} {CX : CXT} {k : Nat} {ps : List Str} {sp : Sp}
theorem FD.mk (a : PySem.W.nsIn K mainGlobals n = some (some (.ref f))) (l : K.lookup f = some ⟨oc,od,.func (PySem.W.fnOf n n (cK st) (bQ st) (aM st) .none kV dc pm an cd ct),sl⟩) (d : PySem.W.codeIn K cd n = true) (k : PySem.W.keepIn K (.ref f) = true) : FD K n st:=⟨f,oc,od,an,sl,kV,dc,pm,cd,ct,a,l,d,k⟩
theorem FC.mk (a : PySem.W.nsIn K mainGlobals n = some (some (.ref f))) (l : K.lookup f = some ⟨oc,od,.func (PySem.W.fnOf n n (cK st) (bQ st) (aM st) .none kV dc pm an (.ref c) ct),sl⟩) (d : PySem.W.codeIn K (.ref c) n = true) (k : PySem.W.keepIn K (.ref f) = true) : FC K n st c:=⟨f,oc,od,an,sl,kV,dc,pm,ct,a,l,d,k⟩
theorem MD.mk (a : PySem.W.findIn K (.ref C) n = some (some (.ref f))) (i : PySem.W.isFn K (.ref f) = true) (l : K.lookup f = some ⟨oc,od,.func (PySem.W.fnOf n q (cK st) (bQ st) (aM st) .none kV dc pm an cd ct),sl⟩) (d : PySem.W.codeIn K cd q = true) (k : PySem.W.keepIn K (.ref f) = true) : MD K C n q st:=⟨f,oc,od,an,sl,kV,dc,pm,cd,ct,a,i,l,d,k⟩
def BD (n q : Str) (st : Stmt) (ps : List Str) : Prop:=∀ (kV doc pm : Value) (an : Option Addr) (cdv ct : Value) (us : List Value),us.length = ps.length→bindArgs (PySem.W.fnOf n q (cK st) (bQ st) (aM st) .none kV doc pm an cdv ct) ⟨us,[]⟩ = pure (ps.zip us)
theorem FD.cal (X : K.In h) (G : h.Ns mainGlobals mg) (D : FD K n st) (b : BD n n st ps) (o : ∀ {f fd},Fun K n n st f fd→FnOk P w K mg base CX k f fd ps sp) : Cal P w K mg base CX k n ps sp :=
 let ⟨f,_,_,_,_,_,_,_,_,_,a,l,d,kp⟩:=D
 have F:=nP (x:=n) (qual:=n) (st:=st) l d kp
 ⟨⟨f,_,PySem.W.mg_of X G a,kp,F.binds b,o F⟩⟩
theorem FC.cal (X : K.In h) (G : h.Ns mainGlobals mg) (D : FC K n st c) (b : BD n n st ps) (o : ∀ {f fd},FunC K n n st f fd c→FnOk P w K mg base CX k f fd ps sp) : Cal P w K mg base CX k n ps sp :=
 let ⟨f,_,_,_,_,_,_,_,_,a,l,d,kp⟩:=D
 have F:=aCF (x:=n) (qual:=n) (st:=st) l d kp
 ⟨⟨f,_,PySem.W.mg_of X G a,kp,F.fun.binds b,o F⟩⟩
theorem MD.cal (D : MD K C n q st) (b : BD n q st ps) (o : ∀ {f fd},Fun K n q st f fd→FnOk P w K mg base CX k f fd ps sp) : MCal P w K mg base CX k C n ps sp :=
 let ⟨f,_,_,_,_,_,_,_,_,_,a,i,l,d,kp⟩:=D
 have F:=nP (x:=n) (qual:=q) (st:=st) l d kp
 ⟨⟨f,_,⟨a,i,kp⟩,F.binds b,o F⟩⟩
end
theorem aEg {l : PySem.W.OpenLaw} {w : World} {K : PySem.W.Frag} {h : Heap} {mg : Str→Option Value} {fa : Addr} (X : K.In h) (G : h.Ns mainGlobals mg) (hfa : mg "law" = some (.ref fa)) {C cO Pt : Addr} {t_FEWEST_HOUSES t_MOST_HOUSES t_MOST_TIES_OUT : Tok} (aC : PySem.W.nsIn K mainGlobals "Net" = some (some (.ref C))) (h_whole : FD K "is_whole" tQ) (h_within : FD K "is_whole_within" pK) (h_house : FD K "is_house" tR) (h_row : FD K "is_row" sRow) (h_unl : FD K "are_unlike_houses" sUnl) (h_tie : FD K "is_tie" sTie) (h_cties : FD K "check_ties" tV) (h_bal : FD K "check_balance" sBal) (h_outs : FC K "houses_out" oC cO) (h_dist : FD K "distances_from" yL) (h_reach : FD K "check_reached" tW) (h_wol : FD K "wrong_of_letter" sWol) (h_wrong : FD K "wrong" uJ) (h_pot : FD K "_law_pot" sPot) (h_take : FD K "_law_take" yR) (h_order : FD K "_law_order" uB) (h_both : FD K "_law_both" yT) (h_tree : FD K "_law_tree" yU) (h_mesh : FD K "_law_mesh" yW) (h_box : FD K "_law_box" sBox) (h_words : FD K "_law_words" uD) (h_one : FD K "_law_one_way" sOne) (h_net : FD K "_law_net" sNet) (h_louts : FD K "_law_outs" uF) (h_stand : FD K "_law_stand" uH) (h_right : FD K "_law_right" uL) (h_odd : FD K "_law_odd" sOdd) (h_other : FD K "_law_other" uM) (h_bent : FD K "_law_bent" oT) (h_twice : FD K "_law_twice_bent" uN) (h_step : FD K "_law_is_step" zF) (h_lwrong : FD K "_law_wrong" qA) (h_law : FD K "law" sLaw) (m_init : MD K C "__init__" "Net.__init__" rO) (m_check : MD K C "check_house" "Net.check_house" tT) (m_out : MD K C "out" "Net.out" sOut) (pg : PySem.W.plainGet K C Str.empty = true) (q_hd : PySem.W.hasDictIn K C = true) (po : PySem.W.plainOver K C = true) (sa : PySem.W.findIn K (.ref C) "__setattr__" = some (some (.builtin "object.__setattr__"))) (mk : PySem.W.makesIn K C = true) (kc : PySem.W.keepIn K (.ref C) = true) (nH : PySem.W.findIn K (.ref C) "house_count" = some none) (nT : PySem.W.findIn K (.ref C) "tie_list" = some none) (nO : PySem.W.findIn K (.ref C) "out_lists" = some none) (nD : PySem.W.findIn K (.ref C) "distances" = some none) (z_isinstance : PySem.W.nsIn K mainGlobals "isinstance" = some none) (z_int : PySem.W.nsIn K mainGlobals "int" = some none) (z_bool : PySem.W.nsIn K mainGlobals "bool" = some none) (z_tuple : PySem.W.nsIn K mainGlobals "tuple" = some none) (z_list : PySem.W.nsIn K mainGlobals "list" = some none) (z_str : PySem.W.nsIn K mainGlobals "str" = some none) (z_set : PySem.W.nsIn K mainGlobals "set" = some none) (z_len : PySem.W.nsIn K mainGlobals "len" = some none) (z_range : PySem.W.nsIn K mainGlobals "range" = some none) (z_sorted : PySem.W.nsIn K mainGlobals "sorted" = some none) (z_any : PySem.W.nsIn K mainGlobals "any" = some none) (z_max : PySem.W.nsIn K mainGlobals "max" = some none) (z_min : PySem.W.nsIn K mainGlobals "min" = some none) (z_ValueError : PySem.W.nsIn K mainGlobals "ValueError" = some none) (z_all : PySem.W.nsIn K mainGlobals "all" = some none) (z_abs : PySem.W.nsIn K mainGlobals "abs" = some none) (z_divmod : PySem.W.nsIn K mainGlobals "divmod" = some none) (z_dict : PySem.W.nsIn K mainGlobals "dict" = some none) (z_zip : PySem.W.nsIn K mainGlobals "zip" = some none) (z_repr : PySem.W.nsIn K mainGlobals "repr" = some none) (g_FEWEST_HOUSES : PySem.W.nsIn K mainGlobals "FEWEST_HOUSES" = some (some (.int 2 t_FEWEST_HOUSES))) (g_MOST_HOUSES : PySem.W.nsIn K mainGlobals "MOST_HOUSES" = some (some (.int 32 t_MOST_HOUSES))) (g_MOST_TIES_OUT : PySem.W.nsIn K mainGlobals "MOST_TIES_OUT" = some (some (.int 8 t_MOST_TIES_OUT))) (q_outs : PySem.W.codeHdIn K cO Pt = true) :
  ∃ fd : FuncData,(∀ (s : Shared) (v : Value),BindsTo s fd ⟨[v],[]⟩ [("_law_script",v)])∧∀ base : Heap,K.In base→base.Ns mainGlobals mg→BmOk mg base→FnOk l.prog w K mg base CX0 9 fa fd ["_law_script"] (rV K Pt):=by
 obtain ⟨f_law,oc,od,an,sl,kV,dc,pm,cd,ct,a_law,l_law,d_law,k_law⟩:=h_law
 have e:=hfa.symm.trans (PySem.W.mg_of X G a_law)
 cases e
 have F_law:=nP (x := "law") (qual := "law") (st:=sLaw) l_law d_law k_law
 obtain ⟨f_i,oci,odi,ani,sli,kVi,dci,pmi,cdi,cti,a_i,i_i,l_i,d_i,k_i⟩:=m_init
 have F_m_init:=nP (x := "__init__") (qual := "Net.__init__") (st:=rO) l_i d_i k_i
 have b_m_init:=F_m_init.binds (ps:=["self", "many", "ties"]) fun _ _ _ _ _ _ us hl=>match us,hl with | [_,_,_],_=>rfl
 have MK : Mk K C f_i:=⟨mk,a_i,i_i,kc⟩
 have B : Bl mg:=⟨PySem.W.mg_none_of X G z_isinstance,PySem.W.mg_none_of X G z_int,PySem.W.mg_none_of X G z_bool,PySem.W.mg_none_of X G z_tuple,PySem.W.mg_none_of X G z_list,PySem.W.mg_none_of X G z_str,PySem.W.mg_none_of X G z_set,PySem.W.mg_none_of X G z_len,PySem.W.mg_none_of X G z_range,PySem.W.mg_none_of X G z_sorted,PySem.W.mg_none_of X G z_any,PySem.W.mg_none_of X G z_max,PySem.W.mg_none_of X G z_min,PySem.W.mg_none_of X G z_ValueError,PySem.W.mg_none_of X G z_all⟩
 have T : NT K mg C:=⟨⟨pg,q_hd,po,sa⟩,nH,nT,nO,nD,PySem.W.mg_of X G aC⟩
 have B2 : Bl2 mg:=⟨PySem.W.mg_none_of X G z_abs,PySem.W.mg_none_of X G z_divmod,PySem.W.mg_none_of X G z_dict,PySem.W.mg_none_of X G z_zip,PySem.W.mg_none_of X G z_repr⟩
 refine ⟨PySem.W.fnOf "law" "law" (cK sLaw) (bQ sLaw) (aM sLaw) .none kV dc pm an cd ct,fun s v=>.of_eq rfl,fun base kb nb hb=>?_⟩
 have C_whole : Cal l.prog w K mg base CX0 1 "is_whole" ["thing"] (lP K):=FD.cal X G h_whole (fun _ _ _ _ _ _ us hl=>match us,hl with | [_],_=>rfl) fun F_whole=>aBG F_whole B
 have C_within : Cal l.prog w K mg base CX0 2 "is_whole_within" ["thing", "least", "most"] (jL K):=FD.cal X G h_within (fun _ _ _ _ _ _ us hl=>match us,hl with | [_,_,_],_=>rfl) fun F_within=>aAN F_within C_whole
 have C_house : Cal l.prog w K mg base CX0 3 "is_house" ["many", "thing"] (lQ K):=FD.cal X G h_house (fun _ _ _ _ _ _ us hl=>match us,hl with | [_,_],_=>rfl) fun F_house=>aBI F_house C_within
 have C_row : Cal l.prog w K mg base CX0 1 "is_row" ["thing", "length"] (rN K):=FD.cal X G h_row (fun _ _ _ _ _ _ us hl=>match us,hl with | [_,_],_=>rfl) fun F_row=>aDR F_row B
 have C_unl : Cal l.prog w K mg base CX0 4 "are_unlike_houses" ["many", "one", "other"] yJ:=FD.cal X G h_unl (fun _ _ _ _ _ _ us hl=>match us,hl with | [_,_,_],_=>rfl) fun F_unl=>aDT F_unl C_house
 have C_tie : Cal l.prog w K mg base CX0 5 "is_tie" ["many", "thing"] yK:=FD.cal X G h_tie (fun _ _ _ _ _ _ us hl=>match us,hl with | [_,_],_=>rfl) fun F_tie=>aDU F_tie C_row C_unl
 have C_cties : Cal l.prog w K mg base CX0 6 "check_ties" ["many", "ties"] gY:=FD.cal X G h_cties (fun _ _ _ _ _ _ us hl=>match us,hl with | [_,_],_=>rfl) fun F_cties=>aBL F_cties B ⟨_,PySem.W.mg_of X G g_FEWEST_HOUSES⟩ ⟨_,PySem.W.mg_of X G g_MOST_HOUSES⟩ C_within C_tie
 have C_bal : Cal l.prog w K mg base CX0 1 "check_balance" ["many", "ties"] gY:=FD.cal X G h_bal (fun _ _ _ _ _ _ us hl=>match us,hl with | [_,_],_=>rfl) fun F_bal=>aDV F_bal B ⟨_,PySem.W.mg_of X G g_MOST_TIES_OUT⟩
 have C_outs : Cal l.prog w K mg base CX0 1 "houses_out" ["many", "ties", "house"] (oF Pt):=FC.cal X G h_outs (fun _ _ _ _ _ _ us hl=>match us,hl with | [_,_,_],_=>rfl) fun F_outs=>aC1 F_outs B kb hb q_outs
 have C_dist : Cal l.prog w K mg base CX0 1 "distances_from" ["out_lists", "start"] oG:=FD.cal X G h_dist (fun _ _ _ _ _ _ us hl=>match us,hl with | [_,_],_=>rfl) fun F_dist=>aC2 F_dist B
 have C_reach : Cal l.prog w K mg base CX0 1 "check_reached" ["distances"] pL:=FD.cal X G h_reach (fun _ _ _ _ _ _ us hl=>match us,hl with | [_],_=>rfl) fun F_reach=>aBN F_reach B
 have G_init : FnOk l.prog w K mg base CX0 7 f_i _ ["self", "many", "ties"] (tX C Pt):=aC4 F_m_init T B C_cties C_bal C_outs C_dist C_reach
 have M_check : MCal l.prog w K mg base CX0 4 C "check_house" ["self", "thing"] (mT C):=MD.cal m_check (fun _ _ _ _ _ _ us hl=>match us,hl with | [_,_],_=>rfl) fun F_m_check=>aAQ F_m_check T C_house
 have M_out : MCal l.prog w K mg base CX0 5 C "out" ["self", "house"] (tU C):=MD.cal m_out (fun _ _ _ _ _ _ us hl=>match us,hl with | [_,_],_=>rfl) fun F_m_out=>aCX F_m_out T B M_check
 have C_wol : Cal l.prog w K mg base CX0 6 "wrong_of_letter" ["net", "stand", "row", "letter"] (zE K C):=FD.cal X G h_wol (fun _ _ _ _ _ _ us hl=>match us,hl with | [_,_,_,_],_=>rfl) fun F_wol=>aD9 F_wol B T C_whole M_out
 have C_wrong : Cal l.prog w K mg base CX0 7 "wrong" ["net", "homes", "stand", "thing"] (pZ K C):=FD.cal X G h_wrong (fun _ _ _ _ _ _ us hl=>match us,hl with | [_,_,_,_],_=>rfl) fun F_wrong=>aBZ F_wrong B C_row C_wol
 have C_pot : Cal l.prog w K mg base CX0 1 "_law_pot" ["_law_script", "_law_k"] (yS K):=FD.cal X G h_pot (fun _ _ _ _ _ _ us hl=>match us,hl with | [_,_],_=>rfl) fun F_pot=>aD1 F_pot B B2
 have C_take : Cal l.prog w K mg base CX0 1 "_law_take" ["_law_pot_here", "_law_many"] cY:=FD.cal X G h_take (fun _ _ _ _ _ _ us hl=>match us,hl with | [_,_],_=>rfl) fun F_take=>aDb F_take B2
 have C_order : Cal l.prog w K mg base CX0 2 "_law_order" ["_law_pot_here", "_law_many"] lV:=FD.cal X G h_order (fun _ _ _ _ _ _ us hl=>match us,hl with | [_,_],_=>rfl) fun F_order=>aBR F_order B C_take
 have C_both : Cal l.prog w K mg base CX0 1 "_law_both" ["_law_pairs"] uC:=FD.cal X G h_both (fun _ _ _ _ _ _ us hl=>match us,hl with | [_],_=>rfl) fun F_both=>aDc F_both
 have C_tree : Cal l.prog w K mg base CX0 2 "_law_tree" ["_law_pot_here", "_law_n"] iH:=FD.cal X G h_tree (fun _ _ _ _ _ _ us hl=>match us,hl with | [_,_],_=>rfl) fun F_tree=>aDd F_tree B C_take
 have C_mesh : Cal l.prog w K mg base CX0 3 "_law_mesh" ["_law_pot_here", "_law_n"] iH:=FD.cal X G h_mesh (fun _ _ _ _ _ _ us hl=>match us,hl with | [_,_],_=>rfl) fun F_mesh=>aDg F_mesh B C_take C_tree
 have C_box : Cal l.prog w K mg base CX0 1 "_law_box" ["_law_sides"] yY:=FD.cal X G h_box (fun _ _ _ _ _ _ us hl=>match us,hl with | [_],_=>rfl) fun F_box=>aD4 F_box B
 have C_words : Cal l.prog w K mg base CX0 1 "_law_words" ["_law_figures", "_law_base"] pR:=FD.cal X G h_words (fun _ _ _ _ _ _ us hl=>match us,hl with | [_,_],_=>rfl) fun F_words=>aBV F_words B
 have C_one : Cal l.prog w K mg base CX0 3 "_law_one_way" ["_law_pot_here", "_law_n"] yZ:=FD.cal X G h_one (fun _ _ _ _ _ _ us hl=>match us,hl with | [_,_],_=>rfl) fun F_one=>aD5 F_one B C_take C_order
 have C_net : Cal l.prog w K mg base CX0 4 "_law_net" ["_law_pot_here"] zC:=FD.cal X G h_net (fun _ _ _ _ _ _ us hl=>match us,hl with | [_],_=>rfl) fun F_net=>aD7 F_net B C_take C_order C_tree C_mesh C_both C_box C_words C_one
 have C_louts : Cal l.prog w K mg base CX0 1 "_law_outs" ["_law_n", "_law_ties"] pU:=FD.cal X G h_louts (fun _ _ _ _ _ _ us hl=>match us,hl with | [_,_],_=>rfl) fun F_louts=>aBX F_louts B B2
 have C_stand : Cal l.prog w K mg base CX0 2 "_law_stand" ["_law_pot_here", "_law_n", "_law_outs_here"] pV:=FD.cal X G h_stand (fun _ _ _ _ _ _ us hl=>match us,hl with | [_,_,_],_=>rfl) fun F_stand=>aBY F_stand B C_take
 have C_right : Cal l.prog w K mg base CX0 2 "_law_right" ["_law_pot_here", "_law_outs_here", "_law_stand_here"] qB:=FD.cal X G h_right (fun _ _ _ _ _ _ us hl=>match us,hl with | [_,_,_],_=>rfl) fun F_right=>aB0 F_right B C_take
 have C_odd : Cal l.prog w K mg base CX0 2 "_law_odd" ["_law_pot_here", "_law_n"] zI:=FD.cal X G h_odd (fun _ _ _ _ _ _ us hl=>match us,hl with | [_,_],_=>rfl) fun F_odd=>aEc F_odd B C_take
 have C_other : Cal l.prog w K mg base CX0 3 "_law_other" ["_law_pot_here", "_law_way", "_law_n", "_law_outs_here", "_law_stand_here", "_law_thing"] qC:=FD.cal X G h_other (fun _ _ _ _ _ _ us hl=>match us,hl with | [_,_,_,_,_,_],_=>rfl) fun F_other=>aB2 F_other B C_take C_odd
 have C_bent : Cal l.prog w K mg base CX0 4 "_law_bent" ["_law_pot_here", "_law_way", "_law_n", "_law_outs_here", "_law_stand_here", "_law_thing"] (uO K):=FD.cal X G h_bent (fun _ _ _ _ _ _ us hl=>match us,hl with | [_,_,_,_,_,_],_=>rfl) fun F_bent=>aDp F_bent B C_take C_other
 have C_twice : Cal l.prog w K mg base CX0 5 "_law_twice_bent" ["_law_pot_here", "_law_ways", "_law_n", "_law_outs_here", "_law_stand_here", "_law_thing"] qE:=FD.cal X G h_twice (fun _ _ _ _ _ _ us hl=>match us,hl with | [_,_,_,_,_,_],_=>rfl) fun F_twice=>aB3 F_twice B C_bent
 have C_step : Cal l.prog w K mg base CX0 1 "_law_is_step" ["_law_n", "_law_outs_here", "_law_house", "_law_thing"] (uK K):=FD.cal X G h_step (fun _ _ _ _ _ _ us hl=>match us,hl with | [_,_,_,_],_=>rfl) fun F_step=>aDo F_step B
 have C_lwrong : Cal l.prog w K mg base CX0 2 "_law_wrong" ["_law_n", "_law_outs_here", "_law_stand_here", "_law_thing"] (nB K):=FD.cal X G h_lwrong (fun _ _ _ _ _ _ us hl=>match us,hl with | [_,_,_,_],_=>rfl) fun F_lwrong=>aA6 F_lwrong B C_step
 exact aEf F_law B B2 T MK b_m_init G_init C_pot C_take C_net C_louts C_stand C_right C_twice C_lwrong C_wrong
theorem aEN {K : PySem.W.Frag} {P : Addr} (h : ((List.range 2000).any fun c=>PySem.W.codeHdIn K c P) = true) : ∃ c,PySem.W.codeHdIn K c P = true :=
 let ⟨c,_,e⟩:=List.any_eq_true.mp h; ⟨c,e⟩
theorem aEh {K : PySem.W.Frag} {H : Hp} {a : Addr} {xs : List V} {ts : List Addr} (hO : rM ts H) (h : SqL K H a xs) : SqF K H a xs:=by
 rcases h with h | h
 ·rcases h with h | ⟨o,h⟩
  ·rcases hO.2 a with z | ⟨_,z⟩ | ⟨o,ys,z⟩ <;> · rw [h] at z; cases z
  ·exact .inl ⟨o,h⟩
 ·exact .inr fun H'=>.inr h
theorem walk {l : PySem.W.OpenLaw} {q : Program} {loose : List Str} {XP : (Str→Option Value)→Heap→Prop} {YP : World→Heap→Prop} {d : DefRec} {K : Params→PySem.W.Frag} {Pt : Addr} (hn : l.most = some 63) (hdf : d.params.defaults = [])
  (hY : ∀ (w : World) (h : Heap),YP w h→(K w.params).In h) (hT : ∀ (w : World) (h : Heap),YP w h→∀ P∈[Pt],h.get? P = some (PySem.W.tabObj #[]))
  (hcd : ∀ (w : World),((List.range 2000).any fun c=>PySem.W.codeHdIn (K w.params) c Pt) = true) (hkt : ∀ (w : World),(K w.params).lookup Pt = none)
  (F : ∀ (w : World) (mg : Str→Option Value) (fa : Addr) (h : Heap),(K w.params).In h→h.Ns mainGlobals mg→mg d.name = some (.ref fa) →
   ∃ fd : FuncData,(∀ (s : Shared) (u : Value),BindsTo s fd ⟨[u],[]⟩ [("_law_script",u)])∧∀ base : Heap,(K w.params).In base→base.Ns mainGlobals mg→BmOk mg base→FnOk l.prog w (K w.params) mg base CX0 9 fa fd ["_law_script"] (rV (K w.params) Pt)) :
  PySem.W.WalkO q loose XP YP l.row.toRowW d [] (fun f vs=>PySem.call f vs) :=
 aBu (n:=63) (k:=9) (x := "_law_script") (ts:=[Pt]) (K:=K) (CX:=fun _=>CX0) (sp:=fun w=>(rV (K w.params) Pt)) hn (by decide) hdf ⟨rfl,by decide,by decide,rfl⟩ hY hT
  (fun w P hP=>by rw [List.mem_singleton.mp hP]; exact aEN (hcd w)) (fun w P hP=>by rw [List.mem_singleton.mp hP]; exact hkt w) F
  (fun w H a ns hl hO hS=>⟨a,ns,rfl,aEh hO hS,hl,.inl (hO.1 _ (by simp)),fun _=>rfl⟩) fun _ _ _ _ _ z=>z
end K12
open PySem PySem.W PyProof.Rows
namespace PySem.W.Fast
theorem tw7804179104079261017:True:=⟨⟩
theorem tw7507979236448501567:True:=⟨⟩
theorem tw1741720393327235052:True:=⟨⟩
theorem tw16784803037177827571:True:=⟨⟩
theorem tw15370537795945451928:True:=⟨⟩
theorem tw4471834033845312090:True:=⟨⟩
theorem tw17288917206415570122:True:=⟨⟩
theorem tw15594926002509744780:True:=⟨⟩
theorem tw17593661660749439838:True:=⟨⟩
theorem tw11178050934411140103:True:=⟨⟩
theorem tw4117446460415687999:True:=⟨⟩
theorem tw4625337984089939977:True:=⟨⟩
theorem tw10735420589452593592:True:=⟨⟩
theorem tw5382015409963742479:True:=⟨⟩
theorem tw16172138138946799553:True:=⟨⟩
theorem tw9152974225981334148:True:=⟨⟩
theorem tw692337627784162964:True:=⟨⟩
theorem tw17120314611982199893:True:=⟨⟩
theorem tw5189381957673116268:True:=⟨⟩
theorem tw16846503640211086518:True:=⟨⟩
theorem tw4691104577018840625:True:=⟨⟩
theorem tw4806711449659511081:True:=⟨⟩
theorem tw17256095585828023302:True:=⟨⟩
theorem tw1595052180029044161:True:=⟨⟩
theorem tw9111989425965948541:True:=⟨⟩
theorem tw14180376485499717574:True:=⟨⟩
theorem tw16719231002873744759:True:=⟨⟩
theorem tw645371092477695210:True:=⟨⟩
theorem tw17806406498102948699:True:=⟨⟩
theorem tw13488172399504630218:True:=⟨⟩
theorem tw6971655338655005739:True:=⟨⟩
theorem tw13226408359615953376:True:=⟨⟩
theorem tw13863297320734040733:True:=⟨⟩
theorem tw12561748031132722966:True:=⟨⟩
theorem tw10106786856753340476:True:=⟨⟩
theorem tw17173332669102087017:True:=⟨⟩
theorem tw11798391387792326187:True:=⟨⟩
theorem tw3384433077973137309:True:=⟨⟩
theorem tw6808020062567949991:True:=⟨⟩
theorem tw13439513268381961907:True:=⟨⟩
theorem tw14646048306382102912:True:=⟨⟩
theorem tw7364502841880968117:True:=⟨⟩
theorem tw327420097856795424:True:=⟨⟩
theorem tw15254436808100671261:True:=⟨⟩
theorem tw14600276898905180441:True:=⟨⟩
theorem tw2139159290268718038:True:=⟨⟩
theorem tw15752655908923589573:True:=⟨⟩
theorem tw5996500028084847359:True:=⟨⟩
theorem tw857894971594796287:True:=⟨⟩
theorem tw13961067995759385411:True:=⟨⟩
theorem tw12560164000824072961:True:=⟨⟩
theorem tw18220700978869413608:True:=⟨⟩
theorem tw11478142666429108551:True:=⟨⟩
theorem tw10664295665355339307:True:=⟨⟩
theorem tw13105510211064228515:True:=⟨⟩
theorem tw1101440625649280224:True:=⟨⟩
theorem tw11388113340095844662:True:=⟨⟩
theorem tw13850168254722475768:True:=⟨⟩
theorem tw1537204365216049711:True:=⟨⟩
theorem tw9026663327379031512:True:=⟨⟩
theorem tw244544682603588416:True:=⟨⟩
theorem tw14631117417385741481:True:=⟨⟩
theorem tw4327864577562887364:True:=⟨⟩
theorem tw14490857008644922017:True:=⟨⟩
theorem tw16660126466027377376:True:=⟨⟩
theorem tw15030144466870048363:True:=⟨⟩
theorem tw7281833619032563409:True:=⟨⟩
theorem tw10970206723349384715:True:=⟨⟩
theorem tw10335421993178889691:True:=⟨⟩
theorem tw17885573770370967784:True:=⟨⟩
theorem tw9340389897057299353:True:=⟨⟩
theorem tw75530535838370796:True:=⟨⟩
theorem tw3090797593019773010:True:=⟨⟩
theorem tw16656131718435015777:True:=⟨⟩
theorem tw16179760792807017296:True:=⟨⟩
theorem tw5203819823689074789:True:=⟨⟩
theorem tw6923100763269169095:True:=⟨⟩
theorem tw15649039146787875706:True:=⟨⟩
theorem tw2039922315037252844:True:=⟨⟩
theorem tw1885649787755891274:True:=⟨⟩
theorem tw13101017088284703796:True:=⟨⟩
theorem tw6164084580311832646:True:=⟨⟩
theorem tw17392879563836218081:True:=⟨⟩
theorem tw13802495419502466944:True:=⟨⟩
theorem tw702395915233028266:True:=⟨⟩
theorem tw3826888891640044524:True:=⟨⟩
theorem tw12341351102007375046:True:=⟨⟩
theorem tw11346876393330246989:True:=⟨⟩
theorem tw1706772696590232481:True:=⟨⟩
theorem tw3549793885496349700:True:=⟨⟩
theorem tw1078927195854329500:True:=⟨⟩
theorem tw2835877939859977042:True:=⟨⟩
theorem tw3342033625884440326:True:=⟨⟩
theorem tw8933848713577447924:True:=⟨⟩
theorem tw4095346020508061554:True:=⟨⟩
theorem tw15954777096570409277:True:=⟨⟩
theorem tw6933624975428256970:True:=⟨⟩
theorem tw17822097570837267777:True:=⟨⟩
theorem tw8804233106328412397:True:=⟨⟩
theorem tw9380280255657428393:True:=⟨⟩
theorem tw4002184866185845725:True:=⟨⟩
theorem tw966536880843907834:True:=⟨⟩
theorem tw5095172170380649675:True:=⟨⟩
theorem tw8323629498198154612:True:=⟨⟩
theorem tw15494703720993646868:True:=⟨⟩
theorem tw2776325740439674354:True:=⟨⟩
theorem tw4606503588185616381:True:=⟨⟩
theorem tw9418727405524532876:True:=⟨⟩
theorem tw17235026576217580425:True:=⟨⟩
theorem tw15939549714708595891:True:=⟨⟩
theorem tw4744240423396213395:True:=⟨⟩
theorem tw5287823347830657889:True:=⟨⟩
theorem tw18094840061605744373:True:=⟨⟩
theorem tw17486421983437373527:True:=⟨⟩
theorem tw9706863407167554998:True:=⟨⟩
theorem tw13114692424675569885:True:=⟨⟩
theorem tw1797957607975770885:True:=⟨⟩
theorem tw10416514704098134987:True:=⟨⟩
theorem tw10102663798251236904:True:=⟨⟩
theorem tw10016283458113991011:True:=⟨⟩
theorem tw3862855227222868048:True:=⟨⟩
theorem tw2391952262660407491:True:=⟨⟩
theorem tw3936443387812474152:True:=⟨⟩
theorem tw8783166208669325148:True:=⟨⟩
theorem tw1413414363310689711:True:=⟨⟩
theorem tw10118432583982398475:True:=⟨⟩
theorem tw6290639357647748920:True:=⟨⟩
theorem tw11892313013328162868:True:=⟨⟩
theorem tw1814292145873266030:True:=⟨⟩
theorem tw15568865283742950214:True:=⟨⟩
theorem tw13706078346935135575:True:=⟨⟩
theorem tw13435937646777097133:True:=⟨⟩
theorem tw2222836308229709400:True:=⟨⟩
theorem tw1622882775157043219:True:=⟨⟩
theorem tw6539394709623658119:True:=⟨⟩
theorem tw8208931736555852504:True:=⟨⟩
theorem tw17676551041291617762:True:=⟨⟩
theorem tw2551376988980695783:True:=⟨⟩
theorem tw9950773013852536024:True:=⟨⟩
theorem tw14025741903789901442:True:=⟨⟩
theorem tw17427276590562579294:True:=⟨⟩
theorem tw6900145655871719243:True:=⟨⟩
theorem tw15318303880888121310:True:=⟨⟩
theorem tw2557026042201459432:True:=⟨⟩
theorem tw15317627255691903788:True:=⟨⟩
theorem tw14618015891028240785:True:=⟨⟩
theorem tw12862330438584529544:True:=⟨⟩
theorem tw10611603803707025154:True:=⟨⟩
theorem tw8702463962068803557:True:=⟨⟩
theorem tw10528053780451962911:True:=⟨⟩
theorem tw2412426075165260813:True:=⟨⟩
theorem tw15553636206999414089:True:=⟨⟩
theorem tw6150531620192281427:True:=⟨⟩
theorem tw2092832234667458394:True:=⟨⟩
theorem tw8928373935461650977:True:=⟨⟩
theorem tw15181678982951736673:True:=⟨⟩
theorem tw9026259035130384517:True:=⟨⟩
theorem tw12664129433172106410:True:=⟨⟩
theorem tw10165373221379790218:True:=⟨⟩
theorem tw739461276870558773:True:=⟨⟩
theorem tw731118992219681648:True:=⟨⟩
theorem tw734846513662010733:True:=⟨⟩
theorem tw15697311700953980592:True:=⟨⟩
theorem tw6606592302878394167:True:=⟨⟩
theorem tw17191613235292201903:True:=⟨⟩
theorem tw3983572815543643853:True:=⟨⟩
theorem tw10805041470199155306:True:=⟨⟩
theorem tw17228288051604532258:True:=⟨⟩
theorem tw3569721103822176716:True:=⟨⟩
theorem tw689944292570071523:True:=⟨⟩
theorem tw15301559947932901328:True:=⟨⟩
theorem tw16091707485108991648:True:=⟨⟩
theorem tw7057832885220140151:True:=⟨⟩
theorem tw2769672365679418313:True:=⟨⟩
theorem tw18011251497520385211:True:=⟨⟩
theorem tw10458234550923070252:True:=⟨⟩
theorem tw15742963057936276166:True:=⟨⟩
theorem tw7709315926710112939:True:=⟨⟩
theorem tw12519472283332682215:True:=⟨⟩
theorem tw11960979932618919416:True:=⟨⟩
theorem tw667714682783013632:True:=⟨⟩
theorem tw131106965432262203:True:=⟨⟩
theorem tw15737495283889652254:True:=⟨⟩
theorem tw8617168915436141803:True:=⟨⟩
theorem tw7945260859157694030:True:=⟨⟩
theorem tw14837358294757954546:True:=⟨⟩
theorem tw7056684201791470300:True:=⟨⟩
theorem tw6560214515103432701:True:=⟨⟩
theorem tw6633501150389895220:True:=⟨⟩
theorem tw16475219397091282160:True:=⟨⟩
theorem tw1709638883848320732:True:=⟨⟩
theorem tw11813605754840641854:True:=⟨⟩
theorem tw10045218638646817595:True:=⟨⟩
theorem tw5963254760190955141:True:=⟨⟩
theorem tw14350148613317235154:True:=⟨⟩
theorem tw9667552348917725656:True:=⟨⟩
theorem tw529872102576659595:True:=⟨⟩
theorem tw10583761921073694096:True:=⟨⟩
theorem tw6235325089606107370:True:=⟨⟩
theorem tw5893907811756622353:True:=⟨⟩
theorem tw5104475337032667023:True:=⟨⟩
theorem tw5021992568060460583:True:=⟨⟩
theorem tw9957265654497450676:True:=⟨⟩
theorem tw7241911369418709254:True:=⟨⟩
theorem tw3314742441816446638:True:=⟨⟩
theorem tw10742585943769378435:True:=⟨⟩
theorem tw17509565087417611614:True:=⟨⟩
theorem tw344894901856289190:True:=⟨⟩
theorem tw5849773248669222617:True:=⟨⟩
theorem tw951655305180513095:True:=⟨⟩
theorem tw6194015032484720369:True:=⟨⟩
theorem tw14537553389638618969:True:=⟨⟩
theorem tw7101029250299887531:True:=⟨⟩
theorem tw1702750962652866523:True:=⟨⟩
theorem tw2284300893419303641:True:=⟨⟩
theorem tw11374987451418487845:True:=⟨⟩
theorem tw10036161906870510320:True:=⟨⟩
theorem tw12443335127800124119:True:=⟨⟩
theorem tw4037942435310330793:True:=⟨⟩
theorem tw4662076987563356249:True:=⟨⟩
theorem tw7480037106421760677:True:=⟨⟩
theorem tw7527948636929090540:True:=⟨⟩
theorem tw9306196715232189781:True:=⟨⟩
theorem tw8612086036306953677:True:=⟨⟩
theorem tw7791577191872514485:True:=⟨⟩
theorem tw11849131703774421501:True:=⟨⟩
theorem tw2980790170712068060:True:=⟨⟩
theorem tw2687712954454525833:True:=⟨⟩
theorem tw13674985969807301688:True:=⟨⟩
theorem tw9700265223441189936:True:=⟨⟩
theorem tw17847450967885942311:True:=⟨⟩
theorem tw4884038268720806481:True:=⟨⟩
theorem tw9114816107568841196:True:=⟨⟩
theorem tw12585828004144908841:True:=⟨⟩
theorem tw2677068290357001546:True:=⟨⟩
theorem tw4017171370005894686:True:=⟨⟩
theorem tw18135094137133321253:True:=⟨⟩
theorem tw17005869402104111792:True:=⟨⟩
theorem tw11194353541068012204:True:=⟨⟩
theorem tw1238174292105968588:True:=⟨⟩
theorem tw15304727328154434683:True:=⟨⟩
theorem tw3990268156560120894:True:=⟨⟩
theorem tw14234969931366876001:True:=⟨⟩
theorem tw5965756064937721282:True:=⟨⟩
theorem tw17762923057467731595:True:=⟨⟩
theorem tw15285998668356295514:True:=⟨⟩
theorem tw1818734469269621421:True:=⟨⟩
theorem tw8564394577348558929:True:=⟨⟩
theorem tw1726556642981867382:True:=⟨⟩
theorem tw17542459221396919085:True:=⟨⟩
theorem tw2293526062726242053:True:=⟨⟩
theorem tw4606774217001086330:True:=⟨⟩
theorem tw1854516155353625308:True:=⟨⟩
theorem tw18219488069964995762:True:=⟨⟩
theorem tw4826944776195273430:True:=⟨⟩
theorem tw4302046715367678598:True:=⟨⟩
theorem tw17720732127753391686:True:=⟨⟩
theorem tw3799063289439579941:True:=⟨⟩
theorem tw13801434584434765663:True:=⟨⟩
theorem tw3501757930606829426:True:=⟨⟩
theorem tw9608425221833364696:True:=⟨⟩
theorem tw17594186160202142467:True:=⟨⟩
theorem tw1357324818628490560:True:=⟨⟩
theorem tw281806641937926284:True:=⟨⟩
theorem tw17108635848088612898:True:=⟨⟩
theorem tw10064455672251540708:True:=⟨⟩
theorem tw15574960576618742234:True:=⟨⟩
theorem tw13829072543779856184:True:=⟨⟩
theorem tw15574672726997807025:True:=⟨⟩
theorem tw8038745869946894079:True:=⟨⟩
theorem tw12473002236719399150:True:=⟨⟩
theorem tw11338124856313881798:True:=⟨⟩
theorem tw6847801274789219768:True:=⟨⟩
theorem tw4542638754356742744:True:=⟨⟩
theorem tw4452503322940563242:True:=⟨⟩
theorem tw14665642476742415166:True:=⟨⟩
theorem tw16928673802458209827:True:=⟨⟩
theorem tw4433739148286217713:True:=⟨⟩
theorem tw16224991810385022160:True:=⟨⟩
theorem tw2477861604021054847:True:=⟨⟩
theorem tw15281304982741596707:True:=⟨⟩
theorem tw3486176038419970041:True:=⟨⟩
theorem tw2450272162793872664:True:=⟨⟩
theorem tw11485815156477624737:True:=⟨⟩
theorem tw17695460201936440897:True:=⟨⟩
theorem tw345798821116586495:True:=⟨⟩
theorem tw5435898031803108186:True:=⟨⟩
theorem tw2979249103414114769:True:=⟨⟩
theorem tw12716700742614380842:True:=⟨⟩
theorem tw15482789773654662842:True:=⟨⟩
theorem tw10040446237066582996:True:=⟨⟩
theorem tw6201062380537283956:True:=⟨⟩
theorem tw77949706134772174:True:=⟨⟩
theorem tw16230516644638663040:True:=⟨⟩
theorem tw7831560355028102037:True:=⟨⟩
theorem tw3907480284958155353:True:=⟨⟩
theorem tw6886918797072642390:True:=⟨⟩
theorem tw1753395359251810841:True:=⟨⟩
theorem tw3755989397466003957:True:=⟨⟩
theorem tw9101430894187212653:True:=⟨⟩
theorem tw10748012368073736998:True:=⟨⟩
theorem tw12768140096716622216:True:=⟨⟩
theorem tw4933367423914484035:True:=⟨⟩
theorem tw9572991866009568876:True:=⟨⟩
theorem tw6032411623869526462:True:=⟨⟩
theorem tw5988682144115791352:True:=⟨⟩
theorem tw6897244418515744134:True:=⟨⟩
end PySem.W.Fast
set_option maxRecDepth 100000 in
set_option maxHeartbeats 0 in
theorem PySem.Challenge.cw_neverwait_k22_wrong_handings_holds : PySem.Challenge.rw_neverwait_k22_wrong_handings.Holds := by
 w_on; o_law; k_head; (case hw=>w_witness2)
 k_fill
 refine K12.walk (l:=PySem.Challenge.rw_neverwait_k22_wrong_handings) (Pt:=_) rfl rfl (fun w h Y=>PySem.W.km_in_of Y) (fun w h Y=>PySem.W.km_tabs_of Y) ?cd ?kt ?F
 case F =>
  intro w mg fa h KX G hmg
  refine' K12.aEg (Pt:=_) KX G hmg ?_ ?_ ?_ ?_ ?_ ?_ ?_ ?_ ?_ ?_ ?_ ?_ ?_ ?_ ?_ ?_ ?_ ?_ ?_ ?_ ?_ ?_ ?_ ?_ ?_ ?_ ?_ ?_ ?_ ?_ ?_ ?_ ?_ ?_ ?_ ?_ ?_ ?_ ?_ ?_ ?_ ?_ ?_ ?_ ?_ ?_ ?_ ?_ ?_ ?_ ?_ ?_ ?_ ?_ ?_ ?_ ?_ ?_ ?_ ?_ ?_ ?_ ?_ ?_ ?_ ?_ ?_ ?_ ?_ ?_ ?_
  all_goals first
   | (refine' K12.FD.mk ?a ?l ?d ?k; (case a=>k_is); (case l=>k_is); (case d=>k_is); (case k=>k_is))
   | (refine' K12.FC.mk ?a ?l ?d ?k; (case a=>k_is); (case l=>k_is); (case d=>k_is); (case k=>k_is))
   | (refine' K12.MD.mk ?a ?i ?l ?d ?k; (case a=>k_is); (case i=>k_is); (case l=>k_is); (case d=>k_is); (case k=>k_is))
   | k_is
   | kernel_rfl
   | exact ⟨by kernel_rfl,by k_is,by k_is,by k_is,by k_is,by k_is,by k_is,by kernel_rfl⟩
   | skip
 case kt=>intro w; kernel_rfl
 case cd=>intro w; kernel_rfl
