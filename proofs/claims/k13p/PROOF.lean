import PyProof.Rows.All
import Wide.All
import OpenK.AllK
import Wide.FinOn
import Lean
import PyProof.EqAt
import PyProof.EqKinds
import PyProof.TupleCall
import PySem.Challenge.RW_neverwait_k13_boxes
set_option Elab.async false
set_option linter.all false
set_option maxRecDepth 100000
set_option maxHeartbeats 8000000
namespace L2
open PySem PySem.Spec PyProof.Rows
abbrev Key:=Sum Int Str
def lO : Key→Value→Bool
 | .inl k,v=>Value.isInt k v
 | .inr x,v=>Value.isStrOf x v
def keyH (w : World) : Key→Int
 | .inl k=>hashInt k
 | .inr x=>hashStr w x
theorem cN : ∀ {k : Key} {v : Value},lO k v = true→(∃ i t,k = Sum.inl i∧v = Value.int i t)∨(∃ x t,k = Sum.inr x∧v = Value.str x t)
 | .inl i,v,h=>by
  obtain ⟨t,e⟩:=Value.isInt_shape (k:=i) (v:=v) h
  exact .inl ⟨i,t,rfl,e⟩
 | .inr x,v,h=>by
  obtain ⟨t,e⟩:=Value.isStrOf_shape (x:=x) (v:=v) h
  exact .inr ⟨x,t,rfl,e⟩
theorem zI (i : Int) (t : Tok) : lO (.inl i) (.int i t) = true:=by simp [lO,Value.isInt]
theorem zJ (x : Str) (t : Tok) : lO (.inr x) (.str x t) = true:=by simp [lO,Value.isStrOf]
theorem aDC (a b : Int) : decide ((Sum.inl a : Key) = Sum.inl b) = (a == b):=by
 by_cases e : a = b
 ·subst e; simp
 ·have h : ¬ (Sum.inl a : Key) = Sum.inl b:=fun q=>e (Sum.inl.inj q)
  rw [decide_eq_false h]
  exact (beq_eq_false_iff_ne.mpr e).symm
theorem aDD (a b : Str) : decide ((Sum.inr a : Key) = Sum.inr b) = decide (a = b):=by
 by_cases e : a = b
 ·subst e; simp
 ·have h : ¬ (Sum.inr a : Key) = Sum.inr b:=fun q=>e (Sum.inr.inj q)
  rw [decide_eq_false h,decide_eq_false e]
theorem aDE (a : Int) (b : Str) : decide ((Sum.inl a : Key) = Sum.inr b) = false:=decide_eq_false (fun q=>nomatch q)
theorem aDF (a : Str) (b : Int) : decide ((Sum.inr a : Key) = Sum.inl b) = false:=decide_eq_false (fun q=>nomatch q)
def cL (prog : Program) (w : World) : PySem.KeyKind prog w Key where
 is:=lO
 hash:=keyH w
 inj:=fun v a b ha hb=>by
  rcases cN ha with ⟨i,t,rfl,rfl⟩ | ⟨x,t,rfl,rfl⟩
  ·rcases cN hb with ⟨j,u,rfl,e⟩ | ⟨y,u,rfl,e⟩
   ·injection e with e1 _; rw [e1]
   ·exact nomatch e
  ·rcases cN hb with ⟨j,u,rfl,e⟩ | ⟨y,u,rfl,e⟩
   ·exact nomatch e
   ·injection e with e1 _; rw [e1]
 byValue:=fun k v h=>by
  rcases cN h with ⟨i,t,rfl,rfl⟩ | ⟨x,t,rfl,rfl⟩ <;> rfl
 pyHash:=fun hv h=>by
  rcases cN hv with ⟨i,t,rfl,rfl⟩ | ⟨x,t,rfl,rfl⟩
  ·exact wpAny_pyHash_int h
  ·exact wpAny_pyHash_str h
 eqBool:=fun hu hv h=>by
  rcases cN hu with ⟨i,t,rfl,rfl⟩ | ⟨x,t,rfl,rfl⟩
  ·rcases cN hv with ⟨j,u,rfl,rfl⟩ | ⟨y,u,rfl,rfl⟩
   ·rw [aDC] at h; exact wpAny_eqBool_int h
   ·rw [aDE] at h; exact SeqAt.EqAt.int_str i t y u _ _ _ _ h
  ·rcases cN hv with ⟨j,u,rfl,rfl⟩ | ⟨y,u,rfl,rfl⟩
   ·rw [aDF] at h; exact SeqAt.EqAt.str_int x t j u _ _ _ _ h
   ·rw [aDD] at h; exact wpAny_eqBool_str h
 «strs»:=fun k x t v h=>by
  rcases cN h with ⟨i,u,rfl,e⟩ | ⟨y,u,rfl,e⟩
  ·exact nomatch e
  ·injection e with e1 _
   subst e1
   cases v <;> rfl
theorem uX (prog : Program) (w : World) (i : Int) (t : Tok) : (cL prog w).is (.inl i) (.int i t) = true:=zI i t
theorem uY (prog : Program) (w : World) (x : Str) (t : Tok) : (cL prog w).is (.inr x) (.str x t) = true:=zJ x t
end L2
namespace L2
open PySem PySem.Spec PyProof.Rows
inductive V where
 | non | bl (b : Bool) | int (i : Int) | str (x : Str) | byt (b : Array UInt8) | flt (b : UInt64) | ref (a : Addr) | ty (n : String)
 deriving DecidableEq
def RelV : V→Value→Prop
 | .non,u=>u = Value.none
 | .bl b,u=>u = Value.bool b
 | .int i,u=>∃ t,u = Value.int i t
 | .str x,u=>∃ t,u = Value.str x t
 | .byt b,u=>∃ t,u = Value.bytes b t
 | .flt b,u=>∃ t,u = Value.float b t
 | .ref a,u=>u = Value.ref a
 | .ty n,u=>u = Value.type n
abbrev Vals : List V→List Value→Prop:=Paired RelV
theorem Vals.length {xs : List V} {us : List Value} (r : Vals xs us) : xs.length = us.length:=Paired.length r
theorem Vals.get : ∀ {xs : List V} {us : List Value} {i : Nat} {x : V},Vals xs us→xs[i]? = some x→∃ u,us[i]? = some u∧RelV x u
 | _,_,_,_,.nil,e=>by simp at e
 | _,_,0,_,.cons r _,e=>by simp at e; subst e; exact ⟨_,rfl,r⟩
 | _,_,i + 1,x,.cons _ t,e=>by
  obtain ⟨u,h1,h2⟩:=Vals.get (i:=i) (x:=x) t (by simpa using e)
  exact ⟨u,by simpa using h1,h2⟩
theorem Vals.set {x : V} {u : Value} (r : RelV x u) : ∀ {xs : List V} {us : List Value} (i : Nat),Vals xs us→Vals (xs.set i x) (us.set i u)
 | _,_,_,.nil=>.nil
 | _,_,0,.cons _ t=>.cons r t
 | _,_,i + 1,.cons q t=>.cons q (Vals.set r i t)
theorem Vals.append : ∀ {xs ys : List V} {us ws : List Value},Vals xs us→Vals ys ws→Vals (xs ++ ys) (us ++ ws)
 | _,_,_,_,.nil,s=>s
 | _,_,_,_,.cons r t,s=>.cons r (Vals.append t s)
theorem Vals.take : ∀ {xs : List V} {us : List Value} (n : Nat),Vals xs us→Vals (xs.take n) (us.take n)
 | _,_,0,_=>.nil
 | _,_,_ + 1,.nil=>.nil
 | _,_,n + 1,.cons r t=>.cons r (Vals.take n t)
theorem Vals.drop : ∀ {xs : List V} {us : List Value} (n : Nat),Vals xs us→Vals (xs.drop n) (us.drop n)
 | _,_,0,r=>r
 | _,_,_ + 1,.nil=>.nil
 | _,_,n + 1,.cons _ t=>Vals.drop n t
def RelO : Option V→Option Value→Prop
 | some v,some u=>RelV v u
 | none,none=>True
 | _,_=>False
def KV {κ : Type} : List (κ × V)→List (κ × Value)→Prop:=Paired fun (p : κ × V) (q : κ × Value)=>p.1 = q.1∧RelV p.2 q.2
def kV : Key→V
 | .inl i=>.int i
 | .inr x=>.str x
inductive HO where
 | lst (xs : List V)
 | tup (xs : List V)
 | dK (kvs : List (Key × V)) | dT (kvs : List (List Key × V))
 | set (S : Int→Bool) (n : Nat)
 | ins (C dx : Addr) (fs : List (Str × V))
 | own (x : Addr)
 | xd (fs : List (Str × V))
 | met (f x : Addr)
 | rng (lo hi : Int)
 | frz (o : Obj) (u : HO)
 | tbl (ps : Array Value)
 | ext (φ : Heap→Prop)
abbrev Hp:=Addr→Option HO
def upd (H : Hp) (a : Addr) (o : HO) : Hp:=fun b=>if b = a then some o else H b
theorem aD {H : Hp} {a : Addr} {o : HO} : upd H a o a = some o:=by unfold upd; rw [if_pos rfl]
theorem aH {H : Hp} {a b : Addr} {o : HO} (h : b ≠ a) : upd H a o b = H b:=by unfold upd; rw [if_neg h]
theorem fL {H : Hp} {a : Addr} {o u : HO} : upd (upd H a o) a u = upd H a u:=by
 funext b; unfold upd; split <;> rfl
theorem cU {H : Hp} {a b : Addr} {o u : HO} (h : H a = some o) (h' : H b = some u) (d : o ≠ u) : a ≠ b:=by
 intro e; subst e; rw [h] at h'; exact d (Option.some.inj h')
theorem aJ {H : Hp} {a b : Addr} {o : HO} (h : H a = some o) (h' : H b = none) : a ≠ b:=by
 intro e; subst e; rw [h] at h'; cases h'
section
variable (P : Program) (w : World)
def bN (H : Hp) (h : Heap) (a : Addr) : HO→Prop
 | .lst xs=>xs.length ≤ sizeLine∧∃ (its : List Value) (n : Nat),Vals xs its∧h.get? a = some { cls:=.type "list",data:=.seq its.toArray n }
 | .tup xs=>xs.length ≤ sizeLine∧∃ its : List Value,Vals xs its∧IsTup h a its.toArray
 | .dK kvs=>kvs.length ≤ sizeLine∧(a == sysModules) = false∧∃ vs,KV kvs vs∧h.DictOf (cL P w) a vs
 | .dT kvs=>kvs.length ≤ sizeLine∧(a == sysModules) = false∧∃ xs : List (List Key × Addr × Value),
   Paired (fun (p : List Key × V) (q : List Key × Addr × Value)=>p.1 = q.1∧H q.2.1 = some (.tup (p.1.map kV))∧RelV p.2 q.2.2) kvs xs ∧
   ∃ o es ep,h.get? a = some o∧o.ExactDict∧o.data = .dict es ep∧es.toList = xs.map (entryOfKey (tupleKind (cL P w)))∧(xs.map (·.1)).Nodup
 | .set S n=>h.SetOf (intKind P w) a S n
 | .ins C dx fs=>H dx = some (.own a)∧fs.length ≤ 1000∧dx ≠ a∧h.get? a = some (W.instObj C dx) ∧
   ∃ mA,h.Ns1 dx mA∧(∀ f,RelO (fs.lookup f) (mA f))∧PySem.Within mA (fs.map (·.1))
 | .own _=>∃ o,h.get? a = some o
 | .xd fs=>∃ mA,h.Ns1 a mA∧∀ f,RelO (fs.lookup f) (mA f)
 | .rng lo hi=>∃ t u v,h.get? a = some { cls:=.type "range",data:=.fields #[.int lo t,.int hi u,.int 1 v] }
 | .frz o u=>h.get? a = some o∧bN H h a u
 | .tbl ps=>h.get? a = some { cls:=.none,data:=.fields ps }
 | .met f x=>h.get? a = some (W.methodObj (.ref f) (.ref x))
 | .ext φ=>φ h∧(∃ o,h.get? a = some o)∧∀ h1 h2 : Heap,φ h1→(∀ o,h1.get? a = some o→h2.get? a = some o)→φ h2
def HOk (H : Hp) (h : Heap) : Prop:=∀ a o,H a = some o→bN P w H h a o
end
section
variable {P : Program} {w : World} {H H' : Hp} {h h' : Heap} {a : Addr} {o : HO}
theorem bN.lt (x : bN P w H h a o) : a < h.objs.size:=by
 cases o with
 | lst xs=>obtain ⟨_,_,_,_,e⟩:=x; exact Heap.lt_size e
 | tup xs=>obtain ⟨_,_,_,p⟩:=x; exact p.lt
 | dK kvs=>obtain ⟨_,_,_,_,o,_,_,e,_⟩:=x; exact Heap.lt_size e
 | dT kvs=>obtain ⟨_,_,_,_,o,_,_,e,_⟩:=x; exact Heap.lt_size e
 | set S n=>obtain ⟨o,_,_,_,e,_⟩:=x; exact Heap.lt_size e
 | ins C dx fs=>obtain ⟨_,_,_,e,_⟩:=x; exact Heap.lt_size e
 | own y=>obtain ⟨_,e⟩:=x; exact Heap.lt_size e
 | xd fs=>obtain ⟨_,⟨_,_,_,e,_⟩,_⟩:=x; exact Heap.lt_size e
 | rng lo hi=>obtain ⟨_,_,_,e⟩:=x; exact Heap.lt_size e
 | frz ob u=>obtain ⟨e,_⟩:=x; exact Heap.lt_size e
 | tbl ps=>exact Heap.lt_size (show h.get? a = some _ from x)
 | met f y=>exact Heap.lt_size (show h.get? a = some _ from x)
 | ext φ=>obtain ⟨_,⟨_,e⟩,_⟩:=x; exact Heap.lt_size e
theorem Paired.mapP {α β : Type} {F G : α→β→Prop} : ∀ {l₁ : List α} {l₂ : List β},Paired F l₁ l₂→(∀ a b,F a b→G a b)→Paired G l₁ l₂
 | _,_,.nil,_=>.nil
 | _,_,.cons r t,f=>.cons (f _ _ r) (Paired.mapP t f)
theorem bN.stay (x : bN P w H h a o) (k : ∀ b u,(b = a∨H b = some (.own a))→h.get? b = some u→h'.get? b = some u)
  (ho : ∀ b,H b = some (.own a)→H' b = some (.own a)) (ht : ∀ b xs,H b = some (.tup xs)→H' b = some (.tup xs)) : bN P w H' h' a o:=by
 induction o with
 | lst xs=>obtain ⟨z,its,n,r,e⟩:=x; exact ⟨z,its,n,r,k _ _ (.inl rfl) e⟩
 | tup xs=>obtain ⟨z,its,r,ob,e,c⟩:=x; exact ⟨z,its,r,ob,k _ _ (.inl rfl) e,c⟩
 | dK kvs=>obtain ⟨z,y,vs,r,ob,es,ep,e,c⟩:=x; exact ⟨z,y,vs,r,ob,es,ep,k _ _ (.inl rfl) e,c⟩
 | dT kvs =>
  obtain ⟨z,y,xs,r,ob,es,ep,e,c⟩:=x
  exact ⟨z,y,xs,Paired.mapP r fun p q z=>⟨z.1,ht _ _ z.2.1,z.2.2⟩,ob,es,ep,k _ _ (.inl rfl) e,c⟩
 | set S n=>obtain ⟨ob,es,ep,t,e,c⟩:=x; exact ⟨ob,es,ep,t,k _ _ (.inl rfl) e,c⟩
 | ins C dx fs =>
  obtain ⟨d,z,ne,e,mA,⟨od,es,ep,e2,c⟩,r⟩:=x
  exact ⟨ho _ d,z,ne,k _ _ (.inl rfl) e,mA,⟨od,es,ep,k _ _ (.inr d) e2,c⟩,r⟩
 | own y=>obtain ⟨ob,e⟩:=x; exact ⟨ob,k _ _ (.inl rfl) e⟩
 | xd fs=>obtain ⟨mA,⟨od,es,ep,e,c⟩,r⟩:=x; exact ⟨mA,⟨od,es,ep,k _ _ (.inl rfl) e,c⟩,r⟩
 | rng lo hi=>obtain ⟨t,u,v,e⟩:=x; exact ⟨t,u,v,k _ _ (.inl rfl) e⟩
 | frz ob u ih=>obtain ⟨e,q⟩:=x; exact ⟨k _ _ (.inl rfl) e,ih q⟩
 | tbl ps =>
  have e : h.get? a = some { cls:=.none,data:=.fields ps }:=x
  show h'.get? a = some { cls:=.none,data:=.fields ps }
  exact k a _ (.inl rfl) e
 | met f y =>
  have e : h.get? a = some (W.methodObj (.ref f) (.ref y)):=x
  show h'.get? a = some (W.methodObj (.ref f) (.ref y))
  exact k a _ (.inl rfl) e
 | ext φ=>obtain ⟨p,⟨o,e⟩,st⟩:=x; exact ⟨st _ _ p fun o q=>k _ _ (.inl rfl) q,⟨o,k _ _ (.inl rfl) e⟩,st⟩
theorem HOk.lt (x : HOk P w H h) (e : H a = some o) : a < h.objs.size:=(x a o e).lt
theorem HOk.fresh (x : HOk P w H h) (e : h.objs.size ≤ a) : H a = none:=by
 cases q : H a with
 | none=>rfl
 | some u=>exact absurd (Nat.lt_of_lt_of_le (x.lt q) e) (Nat.lt_irrefl _)
theorem HOk.kept (x : HOk P w H h) (k : ∀ b u,h.get? b = some u→h'.get? b = some u) : HOk P w H h':=fun a o e =>
 (x a o e).stay (fun b u _ q=>k b u q) (fun _ q=>q) fun _ _ q=>q
theorem HOk.laid (x : HOk P w H h) (k : ∀ b u,h.get? b = some u→h'.get? b = some u) (hp : h.objs.size ≤ a) (new : bN P w (upd H a o) h' a o) : HOk P w (upd H a o) h':=fun b u e=>by
 have hn:=x.fresh hp
 by_cases hb : b = a
 ·subst hb; rw [aD] at e; cases e; exact new
 ·rw [aH hb] at e
  exact (x b u e).stay (fun c v _ q=>k c v q) (fun c q=>by rw [aH (aJ q hn)]; exact q) fun c xs q=>by rw [aH (aJ q hn)]; exact q
end
def Rd (H : Hp) (a : Addr) (u : HO) : Prop:=H a = some u∨∃ o,H a = some (.frz o u)
theorem Rd.ok {P : Program} {w : World} {H : Hp} {h : Heap} {a : Addr} {u : HO} (r : Rd H a u) (x : HOk P w H h) : bN P w H h a u:=by
 rcases r with r | ⟨o,r⟩
 ·exact x a u r
 ·obtain ⟨_,q⟩:=x a _ r
  exact q
def Mut : Option HO→Prop
 | some (.lst _)=>True
 | some (.dK _)=>True
 | some (.dT _)=>True
 | some (.set _ _)=>True
 | some (.ins _ _ _)=>True
 | some (.ext _)=>True
 | _=>False
section
variable {P : Program} {w : World} {H : Hp} {h h' : Heap} {x e : Addr} {o' : HO}
theorem HOk.write (ok : HOk P w H h) (mu : Mut (H x)) (he : e = x∨H e = some (.own x)) (k : ∀ b u,b ≠ e→h.get? b = some u→h'.get? b = some u) (heo : ∃ u,h'.get? e = some u)
  (new : bN P w (upd H x o') h' x o') : HOk P w (upd H x o') h':=fun b u q=>by
 have nown : ∀ c y,H c = some (.own y)→c ≠ x:=fun c y r z=>by subst z; rw [r] at mu; exact mu
 have ntup : ∀ c xs,H c = some (.tup xs)→c ≠ x:=fun c xs r z=>by subst z; rw [r] at mu; exact mu
 by_cases hb : b = x
 ·subst hb; rw [aD] at q; cases q; exact new
 ·rw [aH hb] at q
  by_cases hbe : b = e
  ·have q' : H b = some (.own x):=by
    rcases he with z | z
    ·exact absurd (hbe.trans z) hb
    ·rw [hbe]; exact z
   rw [q] at q'; cases q'
   obtain ⟨v,hv⟩:=heo
   exact ⟨v,by rw [hbe]; exact hv⟩
  ·refine (ok b u q).stay (fun c v hc r=>k c v ?_ r) (fun c r=>by rw [aH (nown c b r)]; exact r) fun c xs r=>by rw [aH (ntup c xs r)]; exact r
   rcases hc with rfl | hc
   ·exact hbe
   ·rintro rfl
    rcases he with z | z
    ·exact nown c b hc z
    ·rw [hc] at z; cases z; exact hb rfl
end
structure Un (fs ex : List Addr) (H H' : Hp) (h h' : Heap) : Prop where
 keep : ∀ b o,h.get? b = some o→H b = none→b ∉ fs→b ∉ ex→h'.get? b = some o
 slot : ∀ b o,h.get? b = some o→H b = none→b∈fs→b ∉ ex→∃ sl,h'.get? b = some { o with slots:=sl }
 free : ∀ b o,h.get? b = some o→H b = none→b ∉ ex→H' b = none
 there : ∀ b o,h.get? b = some o→b ∉ ex→∃ o',h'.get? b = some o'
 tups : ∀ b xs,H b = some (.tup xs)→H' b = some (.tup xs)
 frzs : ∀ b o u,H b = some (.frz o u)→H' b = some (.frz o u)
 tbls : ∀ b ps,H b = some (.tbl ps)→∃ more,H' b = some (.tbl (ps ++ more))
section
variable {fs fs' ex ex' : List Addr} {H H1 H2 : Hp} {h h1 h2 h' : Heap} {a x e : Addr} {o : HO}
theorem Un.any (u : Un fs ex H H1 h h1) {b : Addr} {ob : Obj} (q : h.get? b = some ob) (n : H b = none) (hx : b ∉ ex) : ∃ sl,h1.get? b = some { ob with slots:=sl }:=by
 by_cases hb : b∈fs
 ·exact u.slot b ob q n hb hx
 ·exact ⟨ob.slots,u.keep b ob q n hb hx⟩
theorem Un.kept (k : ∀ b u,h.get? b = some u→h'.get? b = some u) : Un fs ex H H h h' :=
 ⟨fun b ob q _ _ _=>k b ob q,fun b ob q _ _ _=>⟨ob.slots,k b ob q⟩,fun _ _ _ n _=>n,fun b ob q _=>⟨ob,k b ob q⟩,fun _ _ q=>q,fun _ _ _ q=>q,fun _ ps q=>⟨#[],by rw [q]; simp⟩⟩
theorem Un.refl : Un fs ex H H h h:=Un.kept fun _ _ q=>q
theorem Un.laid (k : ∀ b u,h.get? b = some u→h'.get? b = some u) (hp : h.objs.size ≤ a) (hn : H a = none) : Un fs ex H (upd H a o) h h' where
 keep:=fun b u q _ _ _=>k b u q
 slot:=fun b u q _ _ _=>⟨u.slots,k b u q⟩
 free:=fun b u q n _=>by rw [aH (Nat.ne_of_lt (Nat.lt_of_lt_of_le (Heap.lt_size q) hp))]; exact n
 there:=fun b u q _=>⟨u,k b u q⟩
 tups:=fun b xs q=>by rw [aH (aJ q hn)]; exact q
 frzs:=fun b u xs q=>by rw [aH (aJ q hn)]; exact q
 tbls:=fun b ps q=>⟨#[],by rw [aH (aJ q hn),q]; simp⟩
theorem Un.write (mu : Mut (H x)) (he : e = x∨H e = some (.own x)) (k : ∀ b u,b ≠ e→h.get? b = some u→h'.get? b = some u) (heo : ∃ u,h'.get? e = some u) : Un fs ex H (upd H x o) h h':=by
 have hx : ∀ b,H b = none→b ≠ x:=fun b n z=>by subst z; rw [n] at mu; exact mu
 have hb : ∀ b,H b = none→b ≠ e:=fun b n z=>by
  subst z
  rcases he with r | r
  ·exact hx b n r
  ·rw [n] at r; cases r
 have hm : ∀ b u,H b = some u→¬ Mut (some u)→b ≠ x:=fun b u q nm z=>by subst z; rw [q] at mu; exact nm mu
 refine ⟨fun b u q n _ _=>k b u (hb b n) q,fun b u q n _ _=>⟨u.slots,k b u (hb b n) q⟩,fun b u q n _=>by rw [aH (hx b n)]; exact n,fun b u q _=>?_,
  fun b xs q=>by rw [aH (hm b _ q fun z=>z)]; exact q,fun b u xs q=>by rw [aH (hm b _ q fun z=>z)]; exact q,fun b ps q=>⟨#[],by rw [aH (hm b _ q fun z=>z),q]; simp⟩⟩
 by_cases hbe : b = e
 ·subst hbe; exact heo
 ·exact ⟨u,k b u hbe q⟩
end
def trk (h : Heap) (H : Hp) : List Addr:=(List.range h.objs.size).filter fun a=>(H a).isSome
def hidT (h : Heap) (H : Hp) : Heap:=W.hideAll h (trk h H)
theorem zK (h : Heap) (H : Hp) : (hidT h H).objs.size = h.objs.size:=W.hideAll_size _ _
theorem aBm {h : Heap} {H : Hp} {b : Addr} {o : Obj} (e : h.get? b = some o) (n : H b = none) : (hidT h H).get? b = some o :=
 W.hideAll_get _ e fun hm=>by
  have q : (H b).isSome = true:=(List.mem_filter.mp hm).2
  rw [n] at q; simp at q
theorem aCx {h : Heap} {H : Hp} {b : Addr} {o : Obj} (e : (hidT h H).get? b = some o) : h.get? b = some o∧H b = none:=by
 have e' : h.get? b = some o:=W.of_hideAll (trk h H) e
 refine ⟨e',?_⟩
 cases q : H b with
 | none=>rfl
 | some x =>
  have hm : b∈trk h H:=List.mem_filter.mpr ⟨List.mem_range.mpr (Heap.lt_size e'),by simp [q]⟩
  have z : (hidT h H).get? b = none:=W.hideAll_none (trk h H) hm
  rw [z] at e; cases e
def eV (g h : Heap) (L : Addr) : List (Addr × Obj):=(List.range h.objs.size).filterMap fun a=>if a = L∨(g.get? a).isSome = true then none else (h.get? a).map fun o=>(a,o)
theorem fZ {g h : Heap} {L a : Addr} {o : Obj} (h1 : a ≠ L) (h2 : g.get? a = none) (h3 : h.get? a = some o) : (a,o)∈eV g h L :=
 List.mem_filterMap.mpr ⟨a,List.mem_range.mpr (Heap.lt_size h3),by simp [h1,h2,h3]⟩
theorem pJ {g h : Heap} {L : Addr} {p : Addr × Obj} (hp : p∈eV g h L) : p.1 ≠ L∧g.get? p.1 = none∧h.get? p.1 = some p.2:=by
 obtain ⟨b,_,e⟩:=List.mem_filterMap.mp hp
 split at e
 ·cases e
 ·rename_i hn
  cases q : h.get? b with
  | none=>rw [q] at e; simp at e
  | some u =>
   rw [q] at e
   simp only [Option.map_some,Option.some.injEq] at e
   subst e
   refine ⟨fun z=>hn (.inl z),?_,q⟩
   show g.get? b = none
   cases r : g.get? b with
   | none=>rfl
   | some v=>exact (hn (.inr (by simp [r]))).elim
theorem sC {g h : Heap} {L : Addr} : News g L h (eV g h L):=fun p hp=>let ⟨a,b,c⟩:=pJ hp; ⟨c,a,b⟩
end L2
namespace L2
open PySem PySem.Spec PyProof.Rows
structure Mod (K : W.Frag) (mg : Str→Option Value) (base : Heap) : Prop where
 kin : K.In base
 glob : base.Ns mainGlobals mg
 blt : ∃ mb,base.Ns builtinsNs mb∧∀ x : Str,x ≠ "__name__" → mb x = bootBuiltins x
 nolimit : base.NoLimit
structure Cx where
 prog : Program
 w : World
 K : W.Frag
 mg : Str→Option Value
 base : Heap
 A : Around
 N : List Str
 s₀ : Shared
 H₀ : Hp
 env : Env
 outer : List Env
 stack : List Env
 ex : List Addr
 fn : Str→Bool
 calm : Bool
 pn : List (Addr × Obj)
 xe : Value→Shared→Prop
def frs (l : List Env) : List Addr:=l.filterMap (·.frame)
abbrev Cx.fs (X : Cx) : List Addr:=frs X.outer
def Vis (sc : Scope) (x : Str) : Prop:=sc.names.lookup x = some .local∨sc.names.lookup x = some .cell∨sc.names.lookup x = some .free
def Loc (sc : Scope) (x : Str) : Prop:=sc.names.lookup x = some .local∨sc.names.lookup x = some .cell
def Look (env : Env) (h : Heap) (m : Str→Option Value) (x : Str) (u : Value) : Prop :=
 (env.kindOf x = some .local∧m x = some u)∨((env.kindOf x = some .cell∨env.kindOf x = some .free)∧∃ c,env.cells.lookup x = some c∧h.IsCell c (some u))
structure Cx.Ok (X : Cx) : Prop where
 mod : Mod X.K X.mg X.base
 kind : X.env.scope.kind = .function
 glob : X.env.globals = mainGlobals
 blt : X.env.builtins = builtinsNs
 above : X.s₀.heap.objs.size ≤ X.env.locals
 inj : ∀ x y c,X.env.cells.lookup x = some c→X.env.cells.lookup y = some c→x = y
 has : ∀ x,(X.env.kindOf x = some .cell∨X.env.kindOf x = some .free)→∃ c,X.env.cells.lookup x = some c
 cab : ∀ x c,X.fn x = true→X.env.cells.lookup x = some c→X.s₀.heap.objs.size ≤ c
 hd : X.calm = true→X.A.handled = none
 frames : X.A.frames = some X.stack
 stk : X.stack = X.outer∨(X.stack = X.env :: X.outer∧X.env.frame = some X.env.locals)
 exf : ∀ b∈X.ex,b ≠ X.env.locals∧∀ x c,X.env.cells.lookup x = some c→c ≠ b
 bs : ∀ b o,X.base.get? b = some o→X.s₀.heap.get? b = some o∧X.H₀ b = none
 bsz : X.base.objs.size ≤ X.s₀.heap.objs.size
 noex : ∀ b o,X.base.get? b = some o→b ∉ X.ex
 exfs : ∀ b∈X.ex,b ∉ X.fs
 funs : X.s₀.heap.FunFrames X.base X.outer
 frf : ∀ b∈X.fs,X.H₀ b = none
structure Inv (X : Cx) (pins : List (Addr × Obj)) (σ : List (Option V)) (H : Hp) (s : Shared) : Prop where
 ok : X.Ok
 os : s.os = X.s₀.os
 bare : AllBare s.gens
 base : Un X.fs X.ex X.H₀ H X.s₀.heap s.heap
 loc : ∃ m,s.heap.Ns X.env.locals m∧∀ (i : Nat) (x : Str) (v : V),X.N[i]? = some x→σ[i]? = some (some v)→Vis X.env.scope x→∃ u,RelV v u∧Look X.env s.heap m x u
 cell : ∀ x c,X.env.cells.lookup x = some c→∃ v,s.heap.IsCell c v
 free : H X.env.locals = none
 freeC : ∀ x c,X.env.cells.lookup x = some c→H c = none
 pin : ∀ p∈X.pn ++ pins,s.heap.get? p.1 = some p.2∧H p.1 = none∧p.1 ≠ X.env.locals∧p.1 ∉ X.fs∧∀ v,p.2.data ≠ .cell v
 hok : HOk X.prog X.w H s.heap
 len : σ.length = X.N.length
section
variable {X : Cx} {pins : List (Addr × Obj)} {σ : List (Option V)} {H H' : Hp} {s : Shared} {h' : Heap}
theorem Cx.Ok.nofr (ok : X.Ok) {b : Addr} {o : Obj} (e : X.base.get? b = some o) : b ∉ X.fs:=fun hb=>by
 have:=(ok.funs.mem hb).1
 rw [e] at this; cases this
theorem Inv.bs (I : Inv X pins σ H s) : ∀ b o,X.base.get? b = some o→s.heap.get? b = some o∧H b = none:=fun b o e =>
 ⟨I.base.keep b o (I.ok.bs b o e).1 (I.ok.bs b o e).2 (I.ok.nofr e) (I.ok.noex b o e),I.base.free b o (I.ok.bs b o e).1 (I.ok.bs b o e).2 (I.ok.noex b o e)⟩
theorem Inv.bk (I : Inv X pins σ H s) : ∀ b o,X.base.get? b = some o→s.heap.get? b = some o:=fun b o e=>(I.bs b o e).1
theorem Inv.mod (I : Inv X pins σ H s) : Mod X.K X.mg X.base:=I.ok.mod
theorem Inv.kIn (I : Inv X pins σ H s) : X.K.In s.heap:=I.ok.mod.kin.keeps I.bk
theorem Inv.fr (I : Inv X pins σ H s) : ∃ m,Fr X.base X.env.locals s.heap m :=
 let ⟨m,hn,_⟩:=I.loc
 ⟨m,hn,I.bk,Nat.le_trans I.ok.bsz I.ok.above⟩
theorem Inv.lt (I : Inv X pins σ H s) : X.env.locals < s.heap.objs.size:=let ⟨_,hn,_⟩:=I.loc; hn.lt
theorem Inv.sz (I : Inv X pins σ H s) : X.s₀.heap.objs.size ≤ s.heap.objs.size:=Nat.le_trans I.ok.above (Nat.le_of_lt I.lt)
theorem Inv.nofs (I : Inv X pins σ H s) {a : Addr} (h : s.heap.objs.size ≤ a) : a ∉ X.fs:=fun hb=>by
 obtain ⟨_,o,ho,_⟩:=I.ok.funs.mem hb
 exact absurd (Nat.lt_of_lt_of_le (Heap.lt_size ho) (Nat.le_trans I.sz h)) (Nat.lt_irrefl _)
theorem Inv.cne (I : Inv X pins σ H s) : ∀ x c,X.env.cells.lookup x = some c→c ≠ X.env.locals:=fun x c e z=>by
 obtain ⟨v,o,ho,hd⟩:=I.cell x c e
 obtain ⟨m,⟨o',es,ep,ho',hd',_⟩,_⟩:=I.loc
 rw [z,ho'] at ho; cases ho; rw [hd'] at hd; cases hd
theorem Inv.funs (I : Inv X pins σ H s) : s.heap.FunFrames X.base X.outer:=by
 have all : ∀ (l : List Env),(∀ b∈frs l,b∈X.fs)→X.s₀.heap.FunFrames X.base l→s.heap.FunFrames X.base l:=by
  intro l
  induction l with
  | nil=>intro _ _; trivial
  | cons env r ih =>
   intro hs hl
   obtain ⟨hk,⟨L,o,hf,hn,ho,hd⟩,hr⟩:=hl
   have hL : L∈X.fs:=hs L (by unfold frs; rw [List.filterMap_cons,hf]; exact List.mem_cons_self)
   obtain ⟨sl,e⟩:=I.base.slot L o ho (I.ok.frf L hL) hL fun z=>I.ok.exfs L z hL
   exact ⟨hk,⟨L,_,hf,hn,e,hd⟩,ih (fun b hb=>hs b (by unfold frs; rw [List.filterMap_cons,hf]; exact List.mem_cons_of_mem _ hb)) hr⟩
 exact all X.outer (fun _ hb=>hb) I.ok.funs
theorem Inv.stack (I : Inv X pins σ H s) : s.heap.FunFrames X.base X.stack:=by
 rcases I.ok.stk with e | ⟨e,hf⟩
 ·rw [e]; exact I.funs
 ·rw [e]
  obtain ⟨m,hn,_⟩:=I.loc
  refine .cons (by rw [I.ok.kind]; decide) hf hn ?_ I.funs
  exact Heap.get?_none_of_le (Nat.le_trans I.ok.bsz I.ok.above)
theorem Inv.stkSub (I : Inv X pins σ H s) : ∀ b∈frs X.stack,b∈X.env.locals :: X.fs:=fun b hb=>by
 rcases I.ok.stk with e | ⟨e,hf⟩
 ·rw [e] at hb; exact List.mem_cons_of_mem _ hb
 ·rw [e] at hb
  unfold frs at hb
  rw [List.filterMap_cons,hf] at hb
  exact hb
theorem Inv.stkFree (I : Inv X pins σ H s) : ∀ b∈frs X.stack,H b = none:=fun b hb=>by
 rcases List.mem_cons.mp (I.stkSub b hb) with e | hb
 ·rw [e]; exact I.free
 ·obtain ⟨_,o,ho,_⟩:=I.ok.funs.mem hb
  exact I.base.free b o ho (I.ok.frf b hb) fun z=>I.ok.exfs b z hb
theorem Inv.step {g' : Array GenState} {t' : Nat} {d' : Drawn} {ch : List Addr} (I : Inv X pins σ H s)
  (hch : ∀ b∈ch,(b∈X.ex∨X.s₀.heap.objs.size ≤ b)∧b ≠ X.env.locals∧(∀ x c,X.env.cells.lookup x = some c→c ≠ b)∧∀ p∈X.pn ++ pins,p.1 ≠ b)
  (keep : ∀ b o,b ≠ X.env.locals→b ∉ X.fs→b ∉ ch→s.heap.get? b = some o→H b = none→h'.get? b = some o)
  (slot : ∀ b o,b ≠ X.env.locals→b∈X.fs→b ∉ ch→s.heap.get? b = some o→H b = none→∃ sl,h'.get? b = some { o with slots:=sl }) (free : ∀ b o,b ∉ ch→s.heap.get? b = some o→H b = none→H' b = none)
  (there : ∀ b o,b ∉ ch→s.heap.get? b = some o→∃ o',h'.get? b = some o')
  (tups : ∀ b xs,H b = some (.tup xs)→H' b = some (.tup xs)) (frzs : ∀ b o u,H b = some (.frz o u)→H' b = some (.frz o u)) (tbls : ∀ b ps,H b = some (.tbl ps)→∃ more,H' b = some (.tbl (ps ++ more)))
  (ns : ∀ m,s.heap.Ns X.env.locals m→h'.Ns X.env.locals m) (hok : HOk X.prog X.w H' h') (hg : AllBare g') :
  Inv X pins σ H' { s with heap:=h',gens:=g',drawn:=d',toks:=t' }:=by
 have neL : ∀ b o,X.s₀.heap.get? b = some o→b ≠ X.env.locals:=fun b o e=>Nat.ne_of_lt (Nat.lt_of_lt_of_le (Heap.lt_size e) I.ok.above)
 have neC : ∀ b o,X.s₀.heap.get? b = some o→b ∉ X.ex→b ∉ ch:=fun b o e hx hb=>by
  rcases (hch b hb).1 with z | z
  ·exact hx z
  ·exact absurd (Nat.lt_of_lt_of_le (Heap.lt_size e) z) (Nat.lt_irrefl _)
 have cellK : ∀ x c,X.env.cells.lookup x = some c→∀ v,s.heap.IsCell c v→h'.IsCell c v:=fun x c e v ⟨o,ho,hd⟩=>by
  have nch : c ∉ ch:=fun z=>(hch c z).2.2.1 x c e rfl
  by_cases hc : c∈X.fs
  ·obtain ⟨sl,q⟩:=slot c o (I.cne x c e) hc nch ho (I.freeC x c e)
   exact ⟨_,q,hd⟩
  ·exact ⟨o,keep c o (I.cne x c e) hc nch ho (I.freeC x c e),hd⟩
 refine ⟨I.ok,I.os,hg,⟨fun b o e n hb hx=>?_,fun b o e n hb hx=>?_,fun b o e n hx=>?_,fun b o e hx=>?_,fun b xs e=>tups b xs (I.base.tups b xs e),fun b o xs e=>frzs b o xs (I.base.frzs b o xs e),fun b ps e=>?_⟩,?_,fun x c e=>?_,?_,fun x c e=>?_,fun p hp=>?_,hok,I.len⟩
 ·exact keep b o (neL b o e) hb (neC b o e hx) (I.base.keep b o e n hb hx) (I.base.free b o e n hx)
 ·obtain ⟨sl,e1⟩:=I.base.slot b o e n hb hx
  obtain ⟨sl',e2⟩:=slot b _ (neL b o e) hb (neC b o e hx) e1 (I.base.free b o e n hx)
  exact ⟨sl',e2⟩
 ·obtain ⟨o',e1⟩:=I.base.there b o e hx
  exact free b o' (neC b o e hx) e1 (I.base.free b o e n hx)
 ·obtain ⟨o',e1⟩:=I.base.there b o e hx
  exact there b o' (neC b o e hx) e1
 ·obtain ⟨m1,e1⟩:=I.base.tbls b ps e
  obtain ⟨m2,e2⟩:=tbls b _ e1
  exact ⟨m1 ++ m2,by rw [e2,Array.append_assoc]⟩
 ·obtain ⟨m,hn,hl⟩:=I.loc
  refine ⟨m,ns m hn,fun i x v e1 e2 e3=>?_⟩
  obtain ⟨u,r,l⟩:=hl i x v e1 e2 e3
  refine ⟨u,r,?_⟩
  rcases l with l | ⟨k,c,e,z⟩
  ·exact .inl l
  ·exact .inr ⟨k,c,e,cellK x c e _ z⟩
 ·obtain ⟨v,z⟩:=I.cell x c e
  exact ⟨v,cellK x c e v z⟩
 ·obtain ⟨m,⟨o,_,_,ho,_⟩,_⟩:=I.loc
  exact free _ o (fun z=>(hch _ z).2.1 rfl) ho I.free
 ·obtain ⟨v,o,ho,hd⟩:=I.cell x c e
  exact free c o (fun z=>(hch c z).2.2.1 x c e rfl) ho (I.freeC x c e)
 ·obtain ⟨e,n,ne,nf,d⟩:=I.pin p hp
  have nch : p.1 ∉ ch:=fun z=>(hch p.1 z).2.2.2 p hp rfl
  exact ⟨keep p.1 p.2 ne nf nch e n,free p.1 p.2 nch e n,ne,nf,d⟩
theorem Inv.un {t' : Nat} (I : Inv X pins σ H s) (u : Un X.fs [] H H' s.heap h') (hok : HOk X.prog X.w H' h') : Inv X pins σ H' { s with heap:=h',toks:=t' }:=by
 obtain ⟨m,⟨o,es,ep,ho,r⟩,_⟩:=id I.loc
 obtain ⟨sl,hL⟩:=u.any ho I.free (by simp)
 exact I.step (g':=s.gens) (d':=s.drawn) (ch:=[]) (fun _ z=>nomatch z) (fun b o _ hb _ e n=>u.keep b o e n hb (by simp)) (fun b o _ hb _ e n=>u.slot b o e n hb (by simp)) (fun b o _ e n=>u.free b o e n (by simp)) (fun b o _ e=>u.there b o e (by simp)) u.tups u.frzs u.tbls (fun m' hm=>by
  obtain ⟨o',es',ep',ho',r'⟩:=hm
  rw [ho] at ho'; cases ho'
  exact ⟨_,es',ep',hL,r'⟩) hok I.bare
theorem Inv.call {g' : Array GenState} {t' : Nat} {d' : Drawn} {ch : List Addr} (I : Inv X pins σ H s) (u : Un (frs X.stack) ch H H' s.heap h') (hok : HOk X.prog X.w H' h') (hg : AllBare g')
  (hch : ∀ b∈ch,(b∈X.ex∨X.s₀.heap.objs.size ≤ b)∧b ≠ X.env.locals∧(∀ x c,X.env.cells.lookup x = some c→c ≠ b)∧∀ p∈X.pn ++ pins,p.1 ≠ b) :
  Inv X pins σ H' { s with heap:=h',gens:=g',drawn:=d',toks:=t' }:=by
 obtain ⟨m,⟨o,es,ep,ho,r⟩,_⟩:=id I.loc
 obtain ⟨sl,hL⟩:=u.any ho I.free fun z=>(hch _ z).2.1 rfl
 exact I.step (ch:=ch) hch (fun b o hL hb hc e n=>u.keep b o e n (fun z=>(List.mem_cons.mp (I.stkSub b z)).elim hL hb) hc) (fun b o _ _ hc e n=>u.any e n hc) (fun b o hc e n=>u.free b o e n hc) (fun b o hc e=>u.there b o e hc) u.tups u.frzs u.tbls (fun m' hm=>by
  obtain ⟨o',es',ep',ho',r'⟩:=hm
  rw [ho] at ho'; cases ho'
  exact ⟨_,es',ep',hL,r'⟩) hok hg
theorem Inv.turned {t' : Nat} {it : Addr} (I : Inv X pins σ H s) (k : ∀ b o,b ≠ it→s.heap.get? b = some o→h'.get? b = some o) (hn : H it = none) (hL : it ≠ X.env.locals)
  (h1 : it∈X.ex∨X.s₀.heap.objs.size ≤ it) (h2 : ∀ x c,X.env.cells.lookup x = some c→c ≠ it) (h3 : ∀ p∈X.pn ++ pins,p.1 ≠ it) : Inv X pins σ H { s with heap:=h',toks:=t' }:=by
 have nit : ∀ b u,H b = some u→b ≠ it:=fun b u e z=>by rw [z,hn] at e; cases e
 refine I.step (g':=s.gens) (d':=s.drawn) (ch:=[it]) (fun b hb=>?_) (fun b o _ _ hc e _=>k b o (fun z=>hc (by simp [z])) e) (fun b o _ _ hc e _=>⟨o.slots,k b o (fun z=>hc (by simp [z])) e⟩) (fun _ _ _ _ n=>n)
  (fun b o hc e=>⟨o,k b o (fun z=>hc (by simp [z])) e⟩) (fun _ _ e=>e) (fun _ _ _ e=>e) (fun b ps e=>⟨#[],by rw [e]; simp⟩) (fun m hm=>?_) (fun b u e=>?_) I.bare
 ·have e : b = it:=by simpa using hb
  subst e
  exact ⟨h1,hL,h2,h3⟩
 ·obtain ⟨o,es,ep,ho,r⟩:=hm
  exact ⟨o,es,ep,k _ o (Ne.symm hL) ho,r⟩
 ·refine (I.hok b u e).stay (fun c v hc q=>k c v ?_ q) (fun _ q=>q) fun _ _ q=>q
  rcases hc with z | z
  ·rw [z]; exact nit b u e
  ·exact nit c _ z
theorem Inv.tok (I : Inv X pins σ H s) (t : Nat) : Inv X pins σ H { s with toks:=t }:=I.un (h':=s.heap) (t':=t) Un.refl I.hok
theorem Inv.kept {t' : Nat} (I : Inv X pins σ H s) (k : ∀ b u,s.heap.get? b = some u→h'.get? b = some u) : Inv X pins σ H { s with heap:=h',toks:=t' }:=I.un (Un.kept k) (I.hok.kept k)
theorem Inv.laid {a : Addr} {o : HO} {t' : Nat} (I : Inv X pins σ H s) (k : ∀ b u,s.heap.get? b = some u→h'.get? b = some u) (hp : s.heap.objs.size ≤ a) (new : bN X.prog X.w (upd H a o) h' a o) :
  Inv X pins σ (upd H a o) { s with heap:=h',toks:=t' }:=I.un (Un.laid k hp (I.hok.fresh hp)) (I.hok.laid k hp new)
theorem Inv.write {x e : Addr} {o : HO} {t' : Nat} (I : Inv X pins σ H s) (mu : Mut (H x)) (he : e = x∨H e = some (.own x)) (k : ∀ b u,b ≠ e→s.heap.get? b = some u→h'.get? b = some u) (heo : ∃ u,h'.get? e = some u)
  (new : bN X.prog X.w (upd H x o) h' x o) : Inv X pins σ (upd H x o) { s with heap:=h',toks:=t' }:=I.un (Un.write mu he k heo) (I.hok.write mu he k heo new)
theorem Inv.pins_of {pins' : List (Addr × Obj)} (I : Inv X pins σ H s) (h : ∀ p∈pins',s.heap.get? p.1 = some p.2∧H p.1 = none∧p.1 ≠ X.env.locals∧p.1 ∉ X.fs∧∀ v,p.2.data ≠ .cell v) : Inv X pins' σ H s :=
 ⟨I.ok,I.os,I.bare,I.base,I.loc,I.cell,I.free,I.freeC,fun p hp=>(List.mem_append.mp hp).elim (fun z=>I.pin p (List.mem_append_left _ z)) (h p),I.hok,I.len⟩
theorem mX {N : List Str} (hN : N.Nodup) {i j : Nat} {x : Str} (a : N[i]? = some x) (b : N[j]? = some x) : i = j:=by
 obtain ⟨h1,e1⟩:=List.getElem?_eq_some_iff.mp a
 obtain ⟨h2,e2⟩:=List.getElem?_eq_some_iff.mp b
 exact (List.getElem_inj hN).mp (e1.trans e2.symm)
theorem iN {M : Model} {A : Around} {E : Value→Shared→Prop} {i : Nat} {x : Str} {v : V} {u : Value} {Q : Unit→Shared→Prop} (I : Inv X pins σ H s) (hN : X.N.Nodup) (hi : X.N[i]? = some x) (hx : Loc X.env.scope x) (r : RelV v u)
  (h : ∀ s',Inv X pins (σ.set i (some v)) H s'→(∃ a,Heap.SameBut a s.heap s'.heap∧(a = X.env.locals∨X.env.cells.lookup x = some a))→Q () s') (hf : X.fn x = true∨X.env.scope.names.lookup x = some .local:=by first | exact .inl rfl | exact .inr rfl | assumption) : wpAny M A (storeName X.env x u) Q E s:=by
 obtain ⟨m,hn,hl⟩:=id I.loc
 have hcls : (X.env.scope.kind == .class || (X.env.scope.kind == .module && X.env.locals != X.env.globals)) = false:=by rw [I.ok.kind]; rfl
 have hiσ : i < σ.length:=by rw [I.len]; exact (List.getElem?_eq_some_iff.mp hi).1
 have cne:=I.cne
 have tracked : ∀ {a : Addr} {h' : Heap},(∃ o,s.heap.get? a = some o∧H a = none)→Heap.SameBut a s.heap h'→HOk X.prog X.w H h':=fun {a h'} ha hs b ob e=>by
  obtain ⟨_,_,hfree⟩:=ha
  refine (I.hok b ob e).stay (fun c w' hc q=>(hs.2 c ?_).trans q) (fun _ q=>q) fun _ _ q=>q
  rintro rfl
  rcases hc with rfl | hc
  ·rw [hfree] at e; cases e
  ·rw [hfree] at hc; cases hc
 rcases hx with hk | hk
 ·refine wpAny_storeName_local hk hn (fun h' hn' hs=>?_) hcls
  obtain ⟨oL,_,_,hoL,_⟩:=id hn
  refine h _ ⟨I.ok,I.os,I.bare,⟨fun b o e n hb hx=>?_,fun b o e n hb hx=>?_,I.base.free,fun b o e hx=>?_,I.base.tups,I.base.frzs,I.base.tbls⟩,⟨_,hn',fun j y v' e1 e2 e3=>?_⟩,fun y c e=>?_,I.free,I.freeC,fun p hp=>?_,tracked ⟨oL,hoL,I.free⟩ hs,by simpa using I.len⟩ ⟨_,hs,.inl rfl⟩
  ·exact (hs.2 b (Nat.ne_of_lt (Nat.lt_of_lt_of_le (Heap.lt_size e) I.ok.above))).trans (I.base.keep b o e n hb hx)
  ·obtain ⟨sl,e1⟩:=I.base.slot b o e n hb hx
   exact ⟨sl,(hs.2 b (Nat.ne_of_lt (Nat.lt_of_lt_of_le (Heap.lt_size e) I.ok.above))).trans e1⟩
  ·obtain ⟨o',e1⟩:=I.base.there b o e hx
   exact ⟨o',(hs.2 b (Nat.ne_of_lt (Nat.lt_of_lt_of_le (Heap.lt_size e) I.ok.above))).trans e1⟩
  ·by_cases hj : j = i
   ·subst hj
    rw [hi] at e1; cases e1
    rw [List.getElem?_set_self hiσ] at e2
    cases e2
    exact ⟨u,r,.inl ⟨hk,by simp⟩⟩
   ·rw [List.getElem?_set_ne (Ne.symm hj)] at e2
    obtain ⟨u',r',q⟩:=hl j y v' e1 e2 e3
    refine ⟨u',r',?_⟩
    rcases q with ⟨k,e⟩ | ⟨k,c,e,z⟩
    ·refine .inl ⟨k,?_⟩
     have : y ≠ x:=fun e=>hj (mX hN e1 (e ▸ hi))
     simp [this,e]
    ·exact .inr ⟨k,c,e,z.sameBut hs (cne y c e)⟩
  ·obtain ⟨w',z⟩:=I.cell y c e
   exact ⟨w',z.sameBut hs (cne y c e)⟩
  ·obtain ⟨e,n,ne,nf,d⟩:=I.pin p hp
   exact ⟨(hs.2 p.1 ne).trans e,n,ne,nf,d⟩
 ·have hfn : X.fn x = true:=by
   rcases hf with z | z
   ·exact z
   ·rw [z] at hk; cases hk
  obtain ⟨c,hc⟩:=I.ok.has x (.inl hk)
  obtain ⟨w',z⟩:=I.cell x c hc
  refine wpAny_storeName_cell I.ok.kind hk hc z (fun h' hc' hs=>?_)
  obtain ⟨oc,hoc,hocd⟩:=id z
  refine h { s with heap:=h' } ⟨I.ok,I.os,I.bare,⟨fun b o e n hb hx=>?_,fun b o e n hb hx=>?_,I.base.free,fun b o e hx=>?_,I.base.tups,I.base.frzs,I.base.tbls⟩,⟨m,hn.sameBut hs (Ne.symm (cne x c hc)),fun j y v' e1 e2 e3=>?_⟩,fun y c' e=>?_,I.free,I.freeC,fun p hp=>?_,tracked ⟨oc,hoc,I.freeC x c hc⟩ hs,by simpa using I.len⟩ ⟨c,hs,.inr hc⟩
  ·exact (hs.2 b (Nat.ne_of_lt (Nat.lt_of_lt_of_le (Heap.lt_size e) (I.ok.cab x c hfn hc)))).trans (I.base.keep b o e n hb hx)
  ·obtain ⟨sl,e1⟩:=I.base.slot b o e n hb hx
   exact ⟨sl,(hs.2 b (Nat.ne_of_lt (Nat.lt_of_lt_of_le (Heap.lt_size e) (I.ok.cab x c hfn hc)))).trans e1⟩
  ·obtain ⟨o',e1⟩:=I.base.there b o e hx
   exact ⟨o',(hs.2 b (Nat.ne_of_lt (Nat.lt_of_lt_of_le (Heap.lt_size e) (I.ok.cab x c hfn hc)))).trans e1⟩
  ·by_cases hj : j = i
   ·subst hj
    rw [hi] at e1; cases e1
    rw [List.getElem?_set_self hiσ] at e2
    cases e2
    exact ⟨u,r,.inr ⟨.inl hk,c,hc,hc'⟩⟩
   ·rw [List.getElem?_set_ne (Ne.symm hj)] at e2
    obtain ⟨u',r',q⟩:=hl j y v' e1 e2 e3
    refine ⟨u',r',?_⟩
    rcases q with q | ⟨k,c',e,z'⟩
    ·exact .inl q
    ·refine .inr ⟨k,c',e,z'.sameBut hs ?_⟩
     rintro rfl
     exact hj (mX hN e1 (I.ok.inj _ _ _ e hc ▸ hi))
  ·by_cases hcc : c' = c
   ·subst hcc; exact ⟨_,hc'⟩
   ·obtain ⟨w2,z2⟩:=I.cell y c' e
    exact ⟨w2,z2.sameBut hs hcc⟩
  ·obtain ⟨e,n,ne,nf,d⟩:=I.pin p hp
   refine ⟨(hs.2 p.1 ?_).trans e,n,ne,nf,d⟩
   intro q
   rw [q,hoc] at e
   have q' : oc = p.2:=Option.some.inj e
   exact d w' (by rw [← q']; exact hocd)
theorem hX {M : Model} {A : Around} {E : Value→Shared→Prop} {i : Nat} {x : Str} {v : V} {u : Value} {Q : Unit→Shared→Prop} (I : Inv X pins σ H s) (hN : X.N.Nodup) (hi : X.N[i]? = some x) (hx : Loc X.env.scope x) (r : RelV v u)
  (h : ∀ s',Inv X pins (σ.set i (some v)) H s'→Q () s') (hf : X.fn x = true∨X.env.scope.names.lookup x = some .local:=by first | exact .inl rfl | exact .inr rfl | assumption) : wpAny M A (storeName X.env x u) Q E s :=
 iN I hN hi hx r (fun s' I' _=>h s' I') hf
theorem Inv.call' {s' : Shared} {ch : List Addr} (I : Inv X pins σ H s) (ho : s'.os = s.os) (u : Un (frs X.stack) ch H H' s.heap s'.heap) (hok : HOk X.prog X.w H' s'.heap) (hg : AllBare s'.gens)
  (hch : ∀ b∈ch,(b∈X.ex∨X.s₀.heap.objs.size ≤ b)∧b ≠ X.env.locals∧(∀ x c,X.env.cells.lookup x = some c→c ≠ b)∧∀ p∈X.pn ++ pins,p.1 ≠ b) : Inv X pins σ H' s':=by
 obtain ⟨h',g',d',t',o'⟩:=s'
 have e : o' = s.os:=ho
 subst e
 exact I.call (g':=g') (t':=t') (d':=d') u hok hg hch
end
abbrev XK:=Value→Option Addr→Hp→Prop
abbrev St:=List (Option V)
abbrev VK:=V→Hp→Prop
abbrev TE:=St→Hp→VK→Prop
abbrev TT:=St→Hp→(Bool→Hp→Prop)→Prop
abbrev TA:=St→Hp→(List V→Hp→Prop)→Prop
structure Ends where
 nx : St→Hp→Prop
 rt : VK
 bk : St→Hp→Prop:=fun _ _=>False
 ct : St→Hp→Prop:=fun _ _=>False
abbrev TS:=Ends→St→Hp→Prop
def EP (X : Cx) (pins : List (Addr × Obj)) (σ : St) (Q : VK) (u : Value) (s' : Shared) : Prop:=∃ v H',Inv X pins σ H' s'∧RelV v u∧Q v H'
def TP (X : Cx) (pins : List (Addr × Obj)) (σ : St) (Q : Bool→Hp→Prop) (b : Bool) (s' : Shared) : Prop:=∃ H',Inv X pins σ H' s'∧Q b H'
def AP (X : Cx) (pins : List (Addr × Obj)) (σ : St) (Q : List V→Hp→Prop) (us : List Value) (s' : Shared) : Prop:=∃ vs H',Inv X pins σ H' s'∧Vals vs us∧Q vs H'
def SP (X : Cx) (pins : List (Addr × Obj)) (D : Ends) (f : Flow) (s' : Shared) : Prop :=
 match f with
 | .next=>∃ σ' H',Inv X pins σ' H' s'∧D.nx σ' H'
 | .brk=>∃ σ' H',Inv X pins σ' H' s'∧D.bk σ' H'
 | .cont=>∃ σ' H',Inv X pins σ' H' s'∧D.ct σ' H'
 | .ret u=>∃ v σ' H',Inv X pins σ' H' s'∧RelV v u∧D.rt v H'
def PE (X : Cx) (e : Expr) (t : TE) : Prop :=
 ∀ (pins : List (Addr × Obj)) (s : Shared) (σ : St) (H : Hp) (Q : VK),Inv X pins σ H s→t σ H Q→wpAny (model X.prog X.w) X.A (eval e X.env) (EP X pins σ Q) X.xe s
def PT (X : Cx) (e : Expr) (t : TT) : Prop :=
 ∀ (pins : List (Addr × Obj)) (s : Shared) (σ : St) (H : Hp) (Q : Bool→Hp→Prop),Inv X pins σ H s→t σ H Q→wpAny (model X.prog X.w) X.A (isTrue e X.env (eval e X.env)) (TP X pins σ Q) X.xe s
def PW (X : Cx) (e : Expr) (t : TT) : Prop :=
 ∀ (whole : Sem Value) (pins : List (Addr × Obj)) (s : Shared) (σ : St) (H : Hp) (Q : Bool→Hp→Prop),Inv X pins σ H s→t σ H Q→wpAny (model X.prog X.w) X.A (isTrue e X.env whole) (TP X pins σ Q) X.xe s
theorem PW.pt {X : Cx} {e : Expr} {t : TT} (h : PW X e t) : PT X e t:=h _
def PA (X : Cx) (es : List Expr) (t : TA) : Prop :=
 ∀ (pos : Pos) (pins : List (Addr × Obj)) (s : Shared) (σ : St) (H : Hp) (Q : List V→Hp→Prop),Inv X pins σ H s→t σ H Q→wpAny (model X.prog X.w) X.A (spliced (backTo pos (starEach es X.env))) (AP X pins σ Q) X.xe s
def PS (X : Cx) (st : Stmt) (t : TS) : Prop :=
 ∀ (pins : List (Addr × Obj)) (s : Shared) (σ : St) (H : Hp) (D : Ends),Inv X pins σ H s→t D σ H→wpAny (model X.prog X.w) X.A (exec st X.env) (SP X pins D) X.xe s
def PSs (X : Cx) (st : List Stmt) (t : TS) : Prop :=
 ∀ (pins : List (Addr × Obj)) (s : Shared) (σ : St) (H : Hp) (D : Ends),Inv X pins σ H s→t D σ H→wpAny (model X.prog X.w) X.A (execs st X.env) (SP X pins D) X.xe s
theorem thn {α : Type} {t : Sem α} {Q Q' : α→Shared→Prop} {M : Model} {A : Around} {E : Value→Shared→Prop} {s : Shared} (h : wpAny M A t Q E s) (hQ : ∀ a s,Q a s→Q' a s) : wpAny M A t Q' E s:=wpAny_mono h hQ fun _ _ x=>x
end L2
namespace L2
open PySem PySem.Spec PyProof.Rows
section
variable {X : Cx}
def tVar (i : Nat) : TE:=fun σ H Q=>∃ v,σ[i]? = some (some v)∧Q v H
def tC (v : V) : TE:=fun _ H Q=>Q v H
theorem aDG {i : Nat} {x : Str} {pos : Pos} (hN : X.N[i]? = some x) (hv : Vis X.env.scope x) (hd : (x == ("__debug__" : Str)) = false:=by decide) (hcd : (x == ("__classdict__" : Str)) = false:=by decide) : PE X (.Name x pos) (tVar i):=by
 intro pins s σ H Q I h
 obtain ⟨v,e,h⟩:=h
 obtain ⟨m,hn,hl⟩:=I.loc
 obtain ⟨u,r,l⟩:=hl i x v hN e hv
 have fin : EP X pins σ Q u s:=⟨v,H,I,r,h⟩
 rcases l with ⟨hk,hm⟩ | ⟨hk,c,hc,hcell⟩
 ·exact wpAny_Name (wpAny_loadName_local I.ok.kind hk hn hm fin) hd
 ·rcases hk with hk | hk
  ·exact wpAny_Name (wpAny_loadName_cell I.ok.kind hk hc hcell fin) hd
  ·exact wpAny_Name (wpAny_loadName_free I.ok.kind hk hc hcell fin hcd) hd
theorem aK {i j pos} : PE X (.Constant (.int i) j pos) (tC (.int i)):=fun _ _ _ H _ I h=>wpAny_Constant_int ⟨.int i,H,I.tok _,⟨_,rfl⟩,h⟩
theorem nQ {b j pos} : PE X (.Constant (.bool b) j pos) (tC (.bl b)):=fun _ _ _ H _ I h=>Constant_bool ⟨.bl b,H,I,rfl,h⟩
theorem dZ {j pos} : PE X (.Constant .none j pos) (tC .non):=fun _ _ _ H _ I h=>Constant_none ⟨.non,H,I,rfl,h⟩
theorem iW {x j pos} : PE X (.Constant (.str x) j pos) (tC (.str x)):=fun _ _ _ H _ I h=>Calls.Constant_str ⟨.str x,H,I.tok _,⟨_,rfl⟩,h⟩
def Gl (X : Cx) (x : Str) : Prop:=X.env.kindOf x = some .globalImplicit
theorem gY {E : Value→Shared→Prop} {pins : List (Addr × Obj)} {s : Shared} {σ : St} {H : Hp} {x : Str} {u : Value} {pos : Pos} {Q : Value→Shared→Prop} (I : Inv X pins σ H s) (hg : Gl X x) (hm : X.mg x = some u) (h : Q u s)
  (hd : (x == ("__debug__" : Str)) = false:=by decide) : wpAny (model X.prog X.w) X.A (eval (.Name x pos) X.env) Q E s :=
 Calls.Name_function_global I.ok.kind hg (Calls.loadGlobal_global (by rw [I.ok.glob]; exact I.mod.glob.keeps I.bk) hm h) hd
theorem iX {E : Value→Shared→Prop} {pins : List (Addr × Obj)} {s : Shared} {σ : St} {H : Hp} {x : Str} {u : Value} {pos : Pos} {Q : Value→Shared→Prop} (I : Inv X pins σ H s) (hg : Gl X x) (hm : X.mg x = none) (hv : bootBuiltins x = some u) (h : Q u s)
  (hn : x ≠ "__name__" := by decide) (hd : (x == ("__debug__" : Str)) = false:=by decide) : wpAny (model X.prog X.w) X.A (eval (.Name x pos) X.env) Q E s:=by
 obtain ⟨mb,h1,h2⟩:=I.mod.blt
 exact Calls.Name_function_global I.ok.kind hg (Calls.loadGlobal_builtin (by rw [I.ok.glob]; exact I.mod.glob.keeps I.bk) hm (by rw [I.ok.blt]; exact h1.keeps I.bk) ((h2 x hn).trans hv) h) hd
theorem cE {x : Str} {v : V} {u : Value} {pos : Pos} (hg : Gl X x) (hm : X.mg x = some u) (r : RelV v u) (hd : (x == ("__debug__" : Str)) = false:=by decide) : PE X (.Name x pos) (tC v) :=
 fun _ _ _ H _ I h=>gY I hg hm ⟨v,H,I,r,h⟩ hd
theorem dR {x : Str} {v : V} {u : Value} {pos : Pos} (hg : Gl X x) (hm : X.mg x = none) (hv : bootBuiltins x = some u) (r : RelV v u) (hn : x ≠ "__name__" := by decide) (hd : (x == ("__debug__" : Str)) = false:=by decide) : PE X (.Name x pos) (tC v) :=
 fun _ _ _ H _ I h=>iX I hg hm hv ⟨v,H,I,r,h⟩ hn hd
variable {a b : Expr} {ta tb : TE} {pos : Pos}
def PC (X : Cx) (op : CmpOp) (a b : Expr) (t : TE) : Prop :=
 ∀ (pins : List (Addr × Obj)) (s : Shared) (σ : St) (H : Hp) (Q : VK),Inv X pins σ H s→t σ H Q →
  wpAny (model X.prog X.w) X.A (eval a X.env) (fun v s₁=>wpAny (model X.prog X.w) X.A (eval b X.env) (fun u s₂=>wpAny (model X.prog X.w) X.A (compareOp op v u) (EP X pins σ Q) X.xe s₂) X.xe s₁) X.xe s
def tB (t : TE) : TT:=fun σ H Q=>t σ H fun x H1=>∃ c,x = .bl c∧Q c H1
theorem aDH {op : CmpOp} {t : TE} (h : PC X op a b t) (h1 : behindInMarks op b = false:=by first | exact nobehind _ (by decide) (by decide) | rfl) : PT X (.Compare a [op] [b] pos) (tB t):=by
 intro pins s σ H Q I hw
 refine wpAny_isTrue_Compare1 (thn (h pins s σ H _ I hw) fun v s1 h1=>thn h1 fun u s2 h2=>thn h2 fun c s3 ⟨x,H1,I1,r1,q1⟩=>?_) h1
 obtain ⟨d,rfl,q⟩:=q1
 cases r1
 exact wpAny_truthy_bool ⟨H1,I1,q⟩
theorem cP {e : Expr} {t : TE} (h : PE X e t) (he : ∀ whole,isTrue e X.env whole = (do let v ← whole; standAt e.pos; holding [v] (truthy v)):=by intro _; rfl) : PT X e (tB t):=by
 intro pins s σ H Q I hw
 refine isTrue_plain (thn (h pins s σ H _ I hw) fun v s1 ⟨x,H1,I1,r1,q1⟩=>?_) (he _)
 obtain ⟨d,rfl,q⟩:=q1
 cases r1
 exact wpAny_truthy_bool ⟨H1,I1,q⟩
variable {tA tB' : TT} {rest : List Expr}
def tAnd (t u : TT) : TT:=fun σ H Q=>t σ H fun c H1=>if c = true then u σ H1 Q else Q false H1
def tOr (t u : TT) : TT:=fun σ H Q=>t σ H fun c H1=>if c = true then Q true H1 else u σ H1 Q
def tNot (t : TT) : TT:=fun σ H Q=>t σ H fun c H1=>Q (!c) H1
theorem aCy (ha : PT X a tA) : PW X (.BoolOp .And [a] pos) tA:=by
 intro wh pins s σ H Q I h
 refine isTrue_and (thn (ha pins s σ H Q I h) fun c s1 e=>?_)
 cases c with
 | true=>exact isTrue_and_nil e
 | false=>exact e
theorem hZ (ha : PT X a tA) : PW X (.BoolOp .Or [a] pos) tA:=by
 intro wh pins s σ H Q I h
 refine isTrue_or (thn (ha pins s σ H Q I h) fun c s1 e=>?_)
 cases c with
 | false=>exact isTrue_or_nil e
 | true=>exact e
theorem aDI (ha : PT X a tA) (hb : PW X (.BoolOp .And (b :: rest) pos) tB') : PW X (.BoolOp .And (a :: b :: rest) pos) (tAnd tA tB'):=by
 intro wh pins s σ H Q I h
 refine isTrue_and (thn (ha pins s σ H _ I h) fun c s1 ⟨H1,I1,q1⟩=>?_)
 cases c with
 | true=>exact hb wh pins s1 σ H1 Q I1 q1
 | false=>exact ⟨H1,I1,q1⟩
theorem gO (ha : PT X a tA) (hb : PW X (.BoolOp .Or (b :: rest) pos) tB') : PW X (.BoolOp .Or (a :: b :: rest) pos) (tOr tA tB'):=by
 intro wh pins s σ H Q I h
 refine isTrue_or (thn (ha pins s σ H _ I h) fun c s1 ⟨H1,I1,q1⟩=>?_)
 cases c with
 | true=>exact ⟨H1,I1,q1⟩
 | false=>exact hb wh pins s1 σ H1 Q I1 q1
theorem cS (ha : PT X a tA) : PT X (.UnaryOp .Not a pos) (tNot tA):=by
 intro pins s σ H Q I h
 exact isTrue_not (ha pins s σ H (fun c H1=>Q (!c) H1) I h)
def aEq (ta tb : TE) : TE:=fun σ H Q=>ta σ H fun x H1=>∃ c,x = .bl c∧if c = true then tb σ H1 Q else Q (.bl false) H1
def aEr (ta : TE) : TE:=fun σ H Q=>ta σ H fun x H1=>∃ c,x = .bl c∧Q (.bl (!c)) H1
theorem gG {op} {t : TE} (h : PE X a t) : PE X (.BoolOp op [a] pos) t:=fun pins s σ H Q I hw=>BoolOp_one (h pins s σ H Q I hw)
theorem eK (ha : PE X a ta) (hb : PE X (.BoolOp .And (b :: rest) pos) tb) : PE X (.BoolOp .And (a :: b :: rest) pos) (aEq ta tb):=by
 intro pins s σ H Q I h
 refine BoolOp_and (thn (ha pins s σ H _ I h) fun v s1 ⟨x,H1,I1,r1,q1⟩=>?_)
 obtain ⟨c,rfl,q1⟩:=q1
 cases r1
 refine wpAny_truthy_bool ?_
 cases c with
 | true=>exact hb pins s1 σ H1 Q I1 q1
 | false=>exact ⟨.bl false,H1,I1,rfl,q1⟩
theorem zL (ha : PE X a ta) : PE X (.UnaryOp .Not a pos) (aEr ta):=by
 intro pins s σ H Q I h
 refine UnaryOp_ (thn (ha pins s σ H _ I h) fun v s1 ⟨x,H1,I1,r1,q1⟩=>?_)
 obtain ⟨c,rfl,q1⟩:=q1
 cases r1
 exact not_of (wpAny_truthy_bool ⟨.bl (!c),H1,I1,rfl,q1⟩)
def tIf (t : TT) (ta tb : TE) : TE:=fun σ H Q=>t σ H fun c H1=>if c = true then ta σ H1 Q else tb σ H1 Q
theorem aBn {c : Expr} (hc : PT X c tA) (ha : PE X a ta) (hb : PE X b tb) : PE X (.IfExp c a b pos) (tIf tA ta tb):=by
 intro pins s σ H Q I h
 refine wpAny_IfExp (thn (hc pins s σ H _ I h) fun d s1 ⟨H1,I1,q1⟩=>?_)
 cases d with
 | true=>exact ha pins s1 σ H1 Q I1 q1
 | false=>exact hb pins s1 σ H1 Q I1 q1
end
end L2
namespace L2
open PySem PySem.Spec PyProof.Rows
def SqL (K : W.Frag) (H : Hp) (a : Addr) (xs : List V) : Prop :=
 Rd H a (.lst xs) ∨
  ∃ (o : Obj) (its : Array Value) (n : Nat),K.lookup a = some o∧o.cls = .type "list" ∧ o.dict = none∧o.data = .seq its n∧its.size ≤ sizeLine∧Vals xs its.toList
def SqT (K : W.Frag) (H : Hp) (a : Addr) (xs : List V) : Prop :=
 Rd H a (.tup xs) ∨
  ∃ (o : Obj) (its : Array Value) (n : Nat),K.lookup a = some o∧o.cls = .type "tuple" ∧ o.data = .seq its n∧its.size ≤ sizeLine∧Vals xs its.toList
def absV : Value→Option V
 | .none=>some .non
 | .bool b=>some (.bl b)
 | .int i _=>some (.int i)
 | .str x _=>some (.str x)
 | .bytes b _=>some (.byt b)
 | .float b _=>some (.flt b)
 | .ref a=>some (.ref a)
 | .type n=>some (.ty n)
 | _=>none
theorem RelV.abs {x : V} {u : Value} (r : RelV x u) : absV u = some x:=by
 cases x with
 | non=>cases r; rfl
 | bl _=>cases r; rfl
 | int _=>obtain ⟨t,rfl⟩:=r; rfl
 | str _=>obtain ⟨t,rfl⟩:=r; rfl
 | byt _=>obtain ⟨t,rfl⟩:=r; rfl
 | flt _=>obtain ⟨t,rfl⟩:=r; rfl
 | ref _=>cases r; rfl
 | ty _=>cases r; rfl
theorem RelV.inj {x y : V} {u : Value} (r : RelV x u) (q : RelV y u) : x = y:=Option.some.inj (r.abs.symm.trans q.abs)
theorem Vals.inj : ∀ {xs ys : List V} {us : List Value},Vals xs us→Vals ys us→xs = ys
 | _,_,_,.nil,.nil=>rfl
 | _,_,_,.cons r t,.cons r' t'=>by rw [r.inj r',Vals.inj t t']
section
variable {X : Cx} {pins : List (Addr × Obj)} {σ : St} {H : Hp} {s : Shared} {a : Addr} {xs ys : List V}
theorem SqL.of {K : W.Frag} (h : H a = some (.lst xs)) : SqL K H a xs:=.inl (.inl h)
theorem SqT.of {K : W.Frag} (h : H a = some (.tup xs)) : SqT K H a xs:=.inl (.inl h)
theorem Inv.list (I : Inv X pins σ H s) (h : SqL X.K H a xs) : ∃ its : List Value,Vals xs its∧PlainL s.heap a its.toArray∧xs.length ≤ sizeLine:=by
 rcases h with h | ⟨o,its,n,hk,hc,hd,hs,hz,r⟩
 ·obtain ⟨z,its,n,r,e⟩:=h.ok I.hok
  exact ⟨its,r,⟨_,n,e,rfl,rfl,rfl⟩,z⟩
 ·refine ⟨its.toList,r,⟨o,n,I.kIn a o hk,hc,hd,by simpa using hs⟩,?_⟩
  have e:=r.length
  simp only [Array.length_toList] at e
  omega
theorem Inv.tuple (I : Inv X pins σ H s) (h : SqT X.K H a xs) : ∃ its : List Value,Vals xs its∧IsTup s.heap a its.toArray∧xs.length ≤ sizeLine:=by
 rcases h with h | ⟨o,its,n,hk,hc,hs,hz,r⟩
 ·obtain ⟨z,its,r,p⟩:=h.ok I.hok
  exact ⟨its,r,p,z⟩
 ·refine ⟨its.toList,r,⟨o,I.kIn a o hk,hc,n,by simpa using hs⟩,?_⟩
  have e:=r.length
  simp only [Array.length_toList] at e
  omega
theorem Inv.list_inj (I : Inv X pins σ H s) (h : SqL X.K H a xs) (h' : SqL X.K H a ys) : xs = ys:=by
 obtain ⟨its,r,⟨o,n,e,_,_,d⟩,_⟩:=I.list h
 obtain ⟨its',r',⟨o',n',e',_,_,d'⟩,_⟩:=I.list h'
 rw [e] at e'; cases e'
 rw [d] at d'
 injection d' with d1 _
 have : its = its':=by simpa using congrArg Array.toList d1
 subst this
 exact r.inj r'
theorem Inv.tuple_inj (I : Inv X pins σ H s) (h : SqT X.K H a xs) (h' : SqT X.K H a ys) : xs = ys:=by
 obtain ⟨its,r,⟨o,e,_,n,d⟩,_⟩:=I.tuple h
 obtain ⟨its',r',⟨o',e',_,n',d'⟩,_⟩:=I.tuple h'
 rw [e] at e'; cases e'
 rw [d] at d'
 injection d' with d1 _
 have : its = its':=by simpa using congrArg Array.toList d1
 subst this
 exact r.inj r'
end
abbrev Cx.wish (X : Cx) (E : Value→Shared→Prop) : Cx:={ X with xe:=E }
abbrev Cx.nox (X : Cx) : Cx:=X.wish fun _ _=>False
theorem Cx.Ok.wish {X : Cx} (ok : X.Ok) (E : Value→Shared→Prop) : (X.wish E).Ok :=
 ⟨ok.mod,ok.kind,ok.glob,ok.blt,ok.above,ok.inj,ok.has,ok.cab,ok.hd,ok.frames,ok.stk,ok.exf,ok.bs,ok.bsz,ok.noex,ok.exfs,ok.funs,ok.frf⟩
theorem Cx.Ok.unwish {X : Cx} {E : Value→Shared→Prop} (ok : (X.wish E).Ok) : X.Ok :=
 ⟨ok.mod,ok.kind,ok.glob,ok.blt,ok.above,ok.inj,ok.has,ok.cab,ok.hd,ok.frames,ok.stk,ok.exf,ok.bs,ok.bsz,ok.noex,ok.exfs,ok.funs,ok.frf⟩
section
variable {X : Cx} {pins : List (Addr × Obj)} {σ : St} {H : Hp} {s : Shared} {E : Value→Shared→Prop}
theorem Inv.wish (I : Inv X pins σ H s) (E : Value→Shared→Prop) : Inv (X.wish E) pins σ H s:=⟨I.ok.wish E,I.os,I.bare,I.base,I.loc,I.cell,I.free,I.freeC,I.pin,I.hok,I.len⟩
theorem Inv.unwish (I : Inv (X.wish E) pins σ H s) : Inv X pins σ H s:=⟨I.ok.unwish,I.os,I.bare,I.base,I.loc,I.cell,I.free,I.freeC,I.pin,I.hok,I.len⟩
theorem SP.unwish {D : Ends} {f : Flow} {s' : Shared} (h : SP (X.wish E) pins D f s') : SP X pins D f s':=by
 cases f with
 | next=>obtain ⟨σ',H',I,q⟩:=h; exact ⟨σ',H',I.unwish,q⟩
 | brk=>obtain ⟨σ',H',I,q⟩:=h; exact ⟨σ',H',I.unwish,q⟩
 | cont=>obtain ⟨σ',H',I,q⟩:=h; exact ⟨σ',H',I.unwish,q⟩
 | ret u=>obtain ⟨v,σ',H',I,r,q⟩:=h; exact ⟨v,σ',H',I.unwish,r,q⟩
theorem PSs.nox {st : List Stmt} {t : TS} (h : PSs X.nox st t) : PSs X st t:=fun pins s σ H D I hw =>
 wpAny_mono (h pins s σ H D (I.wish _) hw) (fun _ _ q=>q.unwish) fun _ _ z=>False.elim z
end
section
variable {X : Cx} {st : Stmt} {rest : List Stmt} {t u : TS} {e : Expr} {te : TE} {pos : Pos}
def aEs : TS:=fun D σ H=>D.nx σ H
def tSeq (t u : TS) : TS:=fun D σ H=>t { D with nx:=u D } σ H
theorem aZ : PSs X [] aEs:=fun _ _ σ H _ I h=>wpAny_execs_nil ⟨σ,H,I,h⟩
theorem aE (h1 : PS X st t) (h2 : PSs X rest u) : PSs X (st :: rest) (tSeq t u):=by
 intro pins s σ H D I h
 refine wpAny_execs_cons (thn (h1 pins s σ H { D with nx:=u D } I h) fun f s1 q=>?_)
 cases f with
 | next =>
  obtain ⟨σ',H',I',q⟩:=q
  exact h2 pins s1 σ' H' D I' q
 | ret v=>exact q
 | brk=>exact q
 | cont=>exact q
theorem aI (h1 : PS X st t) : PSs X [st] t:=by
 intro pins s σ H D I h
 refine wpAny_execs_cons (thn (h1 pins s σ H D I h) fun f s1 q=>?_)
 cases f with
 | next=>exact wpAny_execs_nil q
 | ret v=>exact q
 | brk=>exact q
 | cont=>exact q
theorem Inv.quiet {pins : List (Addr × Obj)} {σ : St} {H : Hp} {s : Shared} (I : Inv X pins σ H s) : interactive X.env = false:=by simp [interactive,I.ok.kind]
def aEt (te : TE) : TS:=fun D σ H=>te σ H fun _ H1=>D.nx σ H1
theorem cH (he : PE X e te) (hs : swapsWith e none pos.line X.env = pure false:=by rfl) : PS X (.Expr e pos) (aEt te):=by
 intro pins s σ H D I h
 exact wpAny_Expr_any (thn (he pins s σ H _ I h) fun v s1 ⟨x,H1,I1,r1,q1⟩=>⟨σ,H1,I1,q1⟩) I.quiet hs
def tRet (te : TE) : TS:=fun D σ H=>te σ H D.rt
theorem aU (he : PE X e te) : PS X (.Return (some e) pos) (tRet te):=by
 intro pins s σ H D I h
 exact wpAny_Return_some (thn (he pins s σ H _ I h) fun v s1 ⟨x,H1,I1,r1,q1⟩=>⟨x,σ,H1,I1,r1,q1⟩)
def tIfS (c : TT) (t u : TS) : TS:=fun D σ H=>c σ H fun b H1=>if b = true then t D σ H1 else u D σ H1
theorem bR {c : Expr} {a b : List Stmt} {tc : TT} (hc : PT X c tc) (ha : PSs X a t) (hb : PSs X b u) : PS X (.If c a b pos) (tIfS tc t u):=by
 intro pins s σ H D I h
 refine wpAny_If (thn (hc pins s σ H _ I h) fun d s1 ⟨H1,I1,q1⟩=>?_)
 cases d with
 | true=>exact ha pins s1 σ H1 D I1 q1
 | false=>exact hb pins s1 σ H1 D I1 q1
def aDJ : TS:=fun _ _ _=>False
theorem bZ {sts : List Stmt} : PSs X sts aDJ:=fun _ _ _ _ _ _ h=>h.elim
end
abbrev TG:=V→St→Hp→(St→Hp→Prop)→Prop
abbrev TGs:=List V→St→Hp→(St→Hp→Prop)→Prop
def PG (X : Cx) (target : Expr) (t : TG) : Prop :=
 ∀ (pins : List (Addr × Obj)) (s : Shared) (σ : St) (H : Hp) (v : V) (u : Value) (Q : St→Hp→Prop),Inv X pins σ H s→RelV v u→t v σ H Q →
  wpAny (model X.prog X.w) X.A (assign target X.env u) (fun _ s'=>∃ σ' H',Inv X pins σ' H' s'∧Q σ' H') X.xe s
def PGs (X : Cx) (ts : List Expr) (t : TGs) : Prop :=
 ∀ (pins : List (Addr × Obj)) (s : Shared) (σ : St) (H : Hp) (vs : List V) (us : List Value) (Q : St→Hp→Prop),Inv X pins σ H s→Vals vs us→t vs σ H Q →
  wpAny (model X.prog X.w) X.A (assignInOrder ((assignEach ts X.env).map (·.2)) us) (fun _ s'=>∃ σ' H',Inv X pins σ' H' s'∧Q σ' H') X.xe s
abbrev TSet:=V→V→V→Hp→(Hp→Prop)→Prop
def PSet (X : Cx) (t : TSet) : Prop :=
 ∀ (pins : List (Addr × Obj)) (s : Shared) (σ : St) (H : Hp) (o i v : V) (ov iv u : Value) (Q : Hp→Prop),Inv X pins σ H s→RelV o ov→RelV i iv→RelV v u→t o i v H Q →
  wpAny (model X.prog X.w) X.A (setItem ov iv u) (fun _ s'=>∃ H',Inv X pins σ H' s'∧Q H') X.xe s
abbrev TIp:=V→V→Hp→VK→Prop
def PIp (X : Cx) (op : Operator) (t : TIp) : Prop :=
 ∀ (pins : List (Addr × Obj)) (s : Shared) (σ : St) (H : Hp) (x y : V) (v u : Value) (Q : VK),Inv X pins σ H s→RelV x v→RelV y u→t x y H Q →
  wpAny (model X.prog X.w) X.A (inplaceOp op v u) (EP X pins σ Q) X.xe s
section
variable {X : Cx} {pos : Pos}
def bE (i : Nat) : TG:=fun v σ H Q=>Q (σ.set i (some v)) H
theorem aL {i : Nat} {x : Str} (hN : X.N.Nodup) (hi : X.N[i]? = some x) (hx : Loc X.env.scope x) (hf : X.fn x = true∨X.env.scope.names.lookup x = some .local:=by first | exact .inl rfl | exact .inr rfl | assumption) : PG X (.Name x pos) (bE i):=by
 intro pins s σ H v u Q I r h
 exact wpAny_assign_Name (hX I hN hi hx r (fun s' I'=>⟨_,H,I',h⟩) hf)
def gNil : TGs:=fun vs σ H Q=>vs = []∧Q σ H
def eE (t : TG) (u : TGs) : TGs:=fun vs σ H Q=>∃ v r,vs = v :: r∧t v σ H fun σ' H'=>u r σ' H' Q
theorem dS : PGs X [] gNil:=by
 intro pins s σ H vs us Q I r h
 obtain ⟨e,h⟩:=h
 subst e
 cases r
 exact assignInOrder_nil ⟨σ,H,I,h⟩
theorem bQ {e : Expr} {es : List Expr} {t : TG} {u : TGs} (h1 : PG X e t) (h2 : PGs X es u)
  (hs : (assignEach (e :: es) X.env).map (·.2) = assign e X.env :: (assignEach es X.env).map (·.2):=by rfl) : PGs X (e :: es) (eE t u):=by
 intro pins s σ H vs us Q I r h
 obtain ⟨v,vr,e1,h⟩:=h
 subst e1
 cases r with
 | cons r rr =>
  rw [hs]
  refine assignInOrder_cons (thn (h1 pins s σ H _ _ _ I r h) fun _ s1 ⟨σ1,H1,I1,q1⟩=>?_)
  exact h2 pins s1 σ1 H1 _ _ Q I1 rr q1
def gTup (K : W.Frag) (n : Nat) (t : TGs) : TG:=fun v σ H Q=>∃ a xs,v = .ref a∧SqT K H a xs∧xs.length = n∧t xs σ H Q
theorem eL {es : List Expr} {k : Nat} {t : TGs} {n : Nat} (hc : X.calm = true) (h : PGs X es t)
  (hn : (assignEach es X.env).length = n:=by rfl) (hst : (assignEach es X.env).findIdx? (·.1) = none:=by rfl) : PG X (.Tuple es k pos) (gTup X.K n t):=by
 intro pins s σ H v u Q I r hw
 obtain ⟨a,xs,e1,hq,hl,hw⟩:=hw
 subst e1
 cases r
 obtain ⟨its,rv,ht,hz⟩:=I.tuple hq
 refine assign_Tuple_tuple (I.ok.hd hc) ht (by simp [hn,← hl,rv.length]) hst fun h' hx=>?_
 have I1 : Inv X pins σ H { s with heap:=h' }:=I.kept (t':=s.toks) fun b o e=>hx b o (Nat.ne_of_lt (Heap.lt_size e)) e
 exact h pins _ σ H xs _ Q I1 (by simpa using rv) hw
def gSub (to ti : TE) (t : TSet) : TG:=fun v σ H Q=>to σ H fun o H1=>ti σ H1 fun i H2=>t o i v H2 fun H3=>Q σ H3
theorem nS {o i : Expr} {to ti : TE} {t : TSet} (ho : PE X o to) (hi : PE X i ti) (hs : PSet X t)
  (ha : ∀ v,assign (.Subscript o i pos) X.env v = (do
   let ov ← holding [v] (eval o X.env)
   let iv ← holding [v,ov] (eval i X.env)
   standAt pos
   holding [v,ov,iv] (setItem ov iv v)
   release [v,ov,iv] []):=by intro _; rfl) : PG X (.Subscript o i pos) (gSub to ti t):=by
 intro pins s σ H v u Q I r h
 rw [ha]
 refine wpAny_bind (wpAny_holding (thn (ho pins s σ H _ I h) fun ov s1 ⟨x,H1,I1,r1,q1⟩=>?_))
 refine wpAny_bind (wpAny_holding (thn (hi pins s1 σ H1 _ I1 q1) fun iv s2 ⟨y,H2,I2,r2,q2⟩=>?_))
 refine wpAny_bind (wpAny_standAt (wpAny_bind (wpAny_holding (thn (hs pins s2 σ H2 x y v ov iv u _ I2 r1 r2 r q2) fun _ s3 ⟨H3,I3,q3⟩=>?_))))
 exact wpAny_release ⟨σ,H3,I3,q3⟩
def tAsg (te : TE) (g : TG) : TS:=fun D σ H=>te σ H fun x H1=>g x σ H1 D.nx
theorem iY {tg e : Expr} {te : TE} {g : TG} (he : PE X e te) (hg : PG X tg g) (hs : swapsWithSole [tg] e pos.line X.env = pure false:=by rfl) (hw : swappedStores [tg] e X.env = pure none:=by rfl)
  (h1 : (assignEach [tg] X.env).map (·.2) = [assign tg X.env]:=by rfl) : PS X (.Assign [tg] e pos) (tAsg te g):=by
 intro pins s σ H D I h
 refine wpAny_Assign_stores (thn (he pins s σ H _ I h) fun v s1 ⟨x,H1,I1,r1,q1⟩=>?_) hs hw
 rw [h1]
 exact thn (hg pins s1 σ H1 x v _ I1 r1 q1) fun _ s2 q=>q
theorem aS {i : Nat} {x : Str} {e : Expr} {te : TE} {pos' : Pos} (hN : X.N.Nodup) (hi : X.N[i]? = some x) (hx : Loc X.env.scope x) (he : PE X e te) (hs : swapsWith e (some (.Name x pos')) pos.line X.env = pure false:=by rfl) (hf : X.fn x = true∨X.env.scope.names.lookup x = some .local:=by first | exact .inl rfl | exact .inr rfl | assumption) :
  PS X (.Assign [.Name x pos'] e pos) (tAsg te (bE i)):=by
 intro pins s σ H D I h
 refine wpAny_Assign_Name (thn (he pins s σ H _ I h) fun v s1 ⟨y,H1,I1,r1,q1⟩=>?_) hs
 exact hX I1 hN hi hx r1 (fun s2 I2=>⟨_,H1,I2,q1⟩) hf
def tPar (i j : Nat) (ta : TA) : TS:=fun D σ H=>ta σ H fun vs H1=>∃ v w,vs = [v,w]∧D.nx ((σ.set i (some v)).set j (some w)) H1
theorem aDK {i j : Nat} {x y : Str} {a b : Expr} {ta : TA} {px py pt : Pos} {kt k2 pt2} (hc : X.calm = true) (hN : X.N.Nodup) (hi : X.N[i]? = some x) (hj : X.N[j]? = some y) (hij : i ≠ j)
  (hx : X.env.scope.names.lookup x = some .local) (hy : X.env.scope.names.lookup y = some .local) (ha : PA X [a,b] ta)
  (hw : swappedStores [.Tuple [.Name x px,.Name y py] kt pt] (.Tuple [a,b] k2 pt2) X.env = pure (some [x,y]))
  (hs : swapsWithSole [.Tuple [.Name x px,.Name y py] kt pt] (.Tuple [a,b] k2 pt2) pos.line X.env = pure false:=by rfl) :
  PS X (.Assign [.Tuple [.Name x px,.Name y py] kt pt] (.Tuple [a,b] k2 pt2) pos) (tPar i j ta):=by
 intro pins s σ H D I h
 rw [exec_Assign_arm]
 refine wpAny_bind (wpAny_standAt ?_)
 rw [hs]
 refine wpAny_bind (wpAny_pure ?_)
 rw [if_neg (by decide)]
 refine wpAny_bind (Tuple_ (thn (ha _ pins s σ H _ I h) fun us s1 ⟨vs,H1,I1,r1,q1⟩=>?_))
 obtain ⟨v,w,e1,q1⟩:=q1
 subst e1
 obtain ⟨u1,u2,rfl,rv,rw'⟩ : ∃ u1 u2,us = [u1,u2]∧RelV v u1∧RelV w u2:=by
  cases r1 with
  | cons p q =>
   cases q with
   | cons p' q' =>
    cases q'
    exact ⟨_,_,rfl,p,p'⟩
 refine wpAny_newObj_type ?_ (by show 2 ≤ sizeLine; decide)
 have I2 : Inv X pins σ H1 { s1 with heap:=s1.heap.push { cls:=.type "tuple",data:=.seq [u1,u2].toArray } }:=I1.kept (t':=s1.toks) fun b o e=>Heap.get?_push_of_some _ e
 rw [hw]
 refine wpAny_bind (wpAny_pure ?_)
 show wpAny (model X.prog X.w) X.A (do rule "assign.swapped-stores"; let items ← unpackItems (.ref s1.heap.objs.size) 2 none; assignInOrder [fun v=>bindName X.env y v,fun v=>bindName X.env x v] items.reverse; pure Flow.next) _ _ _
 refine wpAny_bind (wpAny_rule (wpAny_bind (unpackItems_tuple (items:=#[u1,u2]) (I.ok.hd hc) (IsTup.new s1.heap _) fun h' hx'=>?_)))
 have I3:=I2.kept (h':=h') (t':=s1.toks) fun b o e=>hx' b o (Nat.ne_of_lt (Heap.lt_size e)) e
 show wpAny _ _ (assignInOrder [fun v=>bindName X.env y v,fun v=>bindName X.env x v] [u2,u1] >>= fun _=>pure Flow.next) _ _ _
 refine wpAny_bind (assignInOrder_cons (wpAny_bindName (hX I3 hN hj (.inl hy) rw' (fun s2 I4=>?_) (.inr hy))))
 refine assignInOrder_cons (wpAny_bindName (hX I4 hN hi (.inl hx) rv (fun s3 I5=>assignInOrder_nil (wpAny_pure ?_)) (.inr hx)))
 rw [List.set_comm _ _ (Ne.symm hij)] at I5
 exact ⟨_,H1,I5,q1⟩
def tAug (i : Nat) (te : TE) (ti : TIp) : TS:=fun D σ H=>∃ x,σ[i]? = some (some x)∧te σ H fun y H1=>ti x y H1 fun z H2=>D.nx (σ.set i (some z)) H2
theorem sD {i : Nat} {x : Str} {e : Expr} {te : TE} {op : Operator} {ti : TIp} {pos' : Pos} (hN : X.N.Nodup) (hi : X.N[i]? = some x) (hx : Loc X.env.scope x) (he : PE X e te) (ho : PIp X op ti) (hf : X.fn x = true∨X.env.scope.names.lookup x = some .local:=by first | exact .inl rfl | exact .inr rfl | assumption) :
  PS X (.AugAssign (.Name x pos') op e pos) (tAug i te ti):=by
 intro pins s σ H D I h
 obtain ⟨v,e1,h⟩:=h
 obtain ⟨m,hn,hl⟩:=I.loc
 have vis : Vis X.env.scope x:=by rcases hx with k | k; exact .inl k; exact .inr (.inl k)
 obtain ⟨u,r,l⟩:=hl i x v hi e1 vis
 refine wpAny_AugAssign_Name ?_
 have go : wpAny (model X.prog X.w) X.A (eval e X.env) (fun w s₂=>wpAny (model X.prog X.w) X.A (inplaceOp op u w) (fun r s₃=>wpAny (model X.prog X.w) X.A (storeName X.env x r) (fun _=>SP X pins D .next) X.xe s₃) X.xe s₂) X.xe s:=by
  refine thn (he pins s σ H _ I h) fun w s1 ⟨y,H1,I1,r1,q1⟩=>?_
  refine thn (ho pins s1 σ H1 v y u w _ I1 r r1 q1) fun z s2 ⟨zv,H2,I2,r2,q2⟩=>?_
  exact hX I2 hN hi hx r2 (fun s3 I3=>⟨_,H2,I3,q2⟩) hf
 rcases l with ⟨hk,hm⟩ | ⟨hk,c,hc,hcell⟩
 ·exact wpAny_loadName_local I.ok.kind hk hn hm go
 ·rcases hk with hk | hk
  ·exact wpAny_loadName_cell I.ok.kind hk hc hcell go
  ·rcases hx with k | k
   ·have : X.env.scope.names.lookup x = some .free:=hk
    rw [k] at this; cases this
   ·have : X.env.scope.names.lookup x = some .free:=hk
    rw [k] at this; cases this
def ipI (f : Int→Int→Int) : TIp:=fun x y H Q=>∃ i j,x = .int i∧y = .int j∧Q (.int (f i j)) H
theorem aDL : PIp X .Add (ipI fun i j=>i + j):=by
 intro pins s σ H x y v u Q I r1 r2 h
 obtain ⟨i,j,e1,e2,q⟩:=h
 subst e1; subst e2
 obtain ⟨t,rfl⟩:=r1
 obtain ⟨t',rfl⟩:=r2
 exact iadd_int ⟨.int _,H,I.tok _,⟨_,rfl⟩,q⟩
end
section
variable {X : Cx} {pos : Pos}
def zM (c : TT) (tb : TS) : TS:=fun D σ H=>∃ W : Nat→St→Hp→Prop,(∃ m,W m σ H)∧∀ m σ H,W m σ H →
 c σ H fun b H1=>if b = true then ∃ N : St→Hp→Prop,(∀ σ' H',N σ' H'→∃ m',m' < m∧W m' σ' H')∧tb { D with nx:=N,ct:=N,bk:=D.nx } σ H1 else D.nx σ H1
theorem sF {c : Expr} {body : List Stmt} {tc : TT} {tb : TS} (hp : PassesOwn (model X.prog X.w) X.A X.env X.xe) (hc : PT X c tc) (hb : PSs X body tb) : PS X (.While c body [] pos) (zM tc tb):=by
 intro pins s σ H D I h
 obtain ⟨W,⟨m0,w0⟩,turn⟩:=h
 refine wpAny_While (codeAny_whileLoop (fun n s'=>∃ σ' H',Inv X pins σ' H' s'∧W n σ' H') ?_ m0 ⟨σ,H,I,w0⟩)
 rintro n s1 ⟨σ1,H1,I1,w1⟩
 refine wpAny_passesOwn hp (thn (hc pins s1 σ1 H1 _ I1 (turn n σ1 H1 w1)) fun b s2 ⟨H2,I2,q2⟩=>?_)
 cases b with
 | true =>
  obtain ⟨N,hN,q2⟩:=q2
  rw [if_pos rfl]
  refine wpAny_passesOwn hp (thn (hb pins s2 σ1 H2 _ I2 q2) fun f s3 q3=>?_)
  cases f with
  | next =>
   obtain ⟨σ3,H3,I3,n3⟩:=q3
   obtain ⟨m',hm,w3⟩:=hN σ3 H3 n3
   exact ⟨m',hm,σ3,H3,I3,w3⟩
  | cont =>
   obtain ⟨σ3,H3,I3,n3⟩:=q3
   obtain ⟨m',hm,w3⟩:=hN σ3 H3 n3
   exact ⟨m',hm,σ3,H3,I3,w3⟩
  | brk=>exact q3
  | ret v=>exact q3
 | false =>
  rw [if_neg Bool.false_ne_true]
  exact wpAny_execs_nil ⟨σ1,H2,I2,q2⟩
end
structure It where
 go : Nat→Hp→Prop
 yld : Nat→Hp→V→Hp→Prop
 stop : Nat→Hp→Prop
def FpOk (X : Cx) (pins : List (Addr × Obj)) (H : Hp) (b : Addr) : Prop :=
 H b = none∧b ≠ X.env.locals∧b ∉ X.fs∧(b∈X.ex∨X.s₀.heap.objs.size ≤ b)∧(∀ x c,X.env.cells.lookup x = some c→c ≠ b)∧∀ p∈X.pn ++ pins,p.1 ≠ b
theorem Inv.fpOk {X : Cx} {pins : List (Addr × Obj)} {σ : St} {H H' : Hp} {s : Shared} {b : Addr} (I : Inv X pins σ H s) (hb : s.heap.objs.size ≤ b) (hn : H' b = none) : FpOk X pins H' b:=by
 refine ⟨hn,Nat.ne_of_gt (Nat.lt_of_lt_of_le I.lt hb),I.nofs hb,.inr (Nat.le_trans I.sz hb),fun x c e z=>?_,fun p hp z=>?_⟩
 ·obtain ⟨v,q⟩:=I.cell x c e
  exact absurd (Nat.lt_of_lt_of_le q.lt (by rw [z]; exact hb)) (Nat.lt_irrefl _)
 ·exact absurd (Nat.lt_of_lt_of_le (Heap.lt_size (I.pin p hp).1) (by rw [z]; exact hb)) (Nat.lt_irrefl _)
structure Turn (P : Program) (w : World) (K : W.Frag) (tg : Expr) (J : It) (fp : List Addr) (it : Addr) (tn : Nat→Heap→Prop) : Prop where
 mem : it∈fp
 obj : ∀ i h,tn i h→∀ b∈fp,∃ o,h.get? b = some o∧∀ v,o.data ≠ .cell v
 keep : ∀ i h h',tn i h→(∀ b∈fp,∀ o,h.get? b = some o→h'.get? b = some o)→tn i h'
 item : ∀ (X : Cx),X.prog = P→X.w = w→X.K = K→X.calm = true→∀ (i : Nat) (pins : List (Addr × Obj)) (s : Shared) (σ : St) (H : Hp) (E : Value→Shared→Prop),Inv X pins σ H s→(∀ b∈fp,FpOk X pins H b)→tn i s.heap→J.go i H →
  wpAny (model P w) X.A (pyNext (.ref it)) (fun r s1=>∃ u,r = some u ∧
   wpAny (model P w) X.A (letOwnedTupleGo tg (.ref it) u) (fun _ s2=>∃ x H',Inv X pins σ H' s2∧RelV x u∧J.yld i H x H'∧tn (i + 1) s2.heap∧∀ b∈fp,H' b = none) E s1) E s
 done : ∀ (X : Cx),X.prog = P→X.w = w→X.K = K→X.calm = true→∀ (i : Nat) (pins : List (Addr × Obj)) (s : Shared) (σ : St) (H : Hp) (E : Value→Shared→Prop),Inv X pins σ H s→(∀ b∈fp,FpOk X pins H b)→tn i s.heap→J.stop i H →
  wpAny (model P w) X.A (pyNext (.ref it)) (fun r s1=>r = none∧Inv X pins σ H s1) E s
 self : ∀ (A : Around) (i : Nat) (s : Shared) (Q : Value→Shared→Prop) (E : Value→Shared→Prop),tn i s.heap→Q (.ref it) s→wpAny (model P w) A (pyIter (.ref it)) Q E s
abbrev TI:=St→Hp→(It→Hp→Prop)→Prop
def PIE (X : Cx) (pins : List (Addr × Obj)) (σ : St) (tg : Expr) (R : It→Hp→Prop) (itv : Value) (s2 : Shared) : Prop :=
 ∃ (it : Addr) (fp : List Addr) (tn : Nat→Heap→Prop) (J : It) (H' : Hp),itv = .ref it∧Inv X pins σ H' s2∧Turn X.prog X.w X.K tg J fp it tn∧tn 0 s2.heap∧(∀ b∈fp,FpOk X pins H' b)∧R J H'
def PI (X : Cx) (tg iter : Expr) (wi : TI) : Prop :=
 ∀ (pins : List (Addr × Obj)) (s : Shared) (σ : St) (H : Hp) (R : It→Hp→Prop),Inv X pins σ H s→wi σ H R →
  wpAny (model X.prog X.w) X.A (eval iter X.env) (fun v s1=>wpAny (model X.prog X.w) X.A (pyIter v) (PIE X pins σ tg R) X.xe s1) X.xe s
theorem xH {M : Model} {A : Around} {E : Value → Shared → Prop} {s : Shared} {tg : Expr} {it : Addr} {u : Value} {o : Obj} {n : String} {vs : Array Value} {Q : Unit → Shared → Prop} (ho : s.heap.get? it = some o) (hc : o.cls = .type n) (hd : o.data = .fields vs)
    (hn : ["enumerate", "zip", "dict_itemiterator", "dict_reverseitemiterator", "odict_iterator", "itertools.zip_longest", "itertools.pairwise"].contains n = false) (hQ : Q () s) : wpAny M A (letOwnedTupleGo tg (.ref it) u) Q E s := by
  unfold letOwnedTupleGo
  cases tg <;> first
    | exact wpAny_pure hQ
    | (cases u <;> first
        | exact wpAny_pure hQ
        | (refine wpAny_bind (wpAny_load ho ?_)
           rw [hc, hd]
           show wpAny M A (if (["enumerate", "zip", "dict_itemiterator", "dict_reverseitemiterator", "odict_iterator", "itertools.zip_longest", "itertools.pairwise"].contains n && vs[0]? == some (rawInt _)) = true then _ else _) Q E s
           rw [if_neg (by intro h; rw [hn, Bool.false_and] at h; cases h)]
           exact wpAny_pure hQ))
def Itl (K : W.Frag) (a : Addr) : It :=
 ⟨fun i H=>∃ xs x,SqL K H a xs∧xs[i]? = some x,fun i H x H'=>H' = H∧∀ xs,SqL K H a xs→xs[i]? = some x,fun i H=>∃ xs,SqL K H a xs∧xs.length ≤ i⟩
def Itt (K : W.Frag) (a : Addr) : It :=
 ⟨fun i H=>∃ xs x,SqT K H a xs∧xs[i]? = some x,fun i H x H'=>H' = H∧∀ xs,SqT K H a xs→xs[i]? = some x,fun i H=>∃ xs,SqT K H a xs∧xs.length ≤ i⟩
def Itr (lo : Int) (n : Nat) : It:=⟨fun i _=>i < n,fun i H x H'=>H' = H∧x = .int (lo + i),fun i _=>n ≤ i⟩
theorem zN {P : Program} {w : World} {K : W.Frag} {tg : Expr} (a it : Addr) : Turn P w K tg (Itl K a) [it] it (fun i h=>h.IsListIter it a i) where
 mem:=by simp
 obj:=fun i h st b hb=>by
  have e : b = it:=by simpa using hb
  subst e
  obtain ⟨o,e,c,d⟩:=st
  exact ⟨o,e,fun v z=>by rw [d] at z; cases z⟩
 keep:=fun i h h' st k=>st.at fun o e=>k it (by simp) o e
 item:=by
  intro X hP hw hK hc i pins s σ H E I hf st hg
  subst hP hw hK
  obtain ⟨xs,x,hq,hx⟩:=hg
  obtain ⟨its,rv,p,hz⟩:=I.list hq
  obtain ⟨u,hu,ru⟩:=rv.get hx
  obtain ⟨f0,f1,f2,f3,f4,f5⟩:=hf it (by simp)
  refine wpAny_pyNext_list_item st p.isList (x:=u) (by simpa using hu) fun h' st' sb=>?_
  have I1 : Inv X pins σ H { s with heap:=h' }:=I.turned (t':=s.toks) (fun b o hb e=>(sb.2 b hb).trans e) f0 f1 f3 f4 f5
  obtain ⟨o,e,c,d⟩:=id st'
  exact ⟨u,rfl,xH (s:={ s with heap:=h' }) e c d (by decide) ⟨x,H,I1,ru,⟨rfl,fun ys hy=>by rw [I.list_inj hy hq]; exact hx⟩,st',fun b hb=>(hf b hb).1⟩⟩
 done:=by
  intro X hP hw hK hc i pins s σ H E I hf st hg
  subst hP hw hK
  obtain ⟨xs,hq,hx⟩:=hg
  obtain ⟨its,rv,p,hz⟩:=I.list hq
  obtain ⟨f0,f1,f2,f3,f4,f5⟩:=hf it (by simp)
  have hl:=rv.length
  exact wpAny_pyNext_list_end (I.ok.hd hc) st p.isList (by simp; omega) fun h' eb=>⟨rfl,I.turned (t':=s.toks) (fun b o hb e=>eb b o hb e) f0 f1 f3 f4 f5⟩
 self:=fun _ _ _ _ _ st h=>wpAny_pyIter_listiter st h
theorem xI {P : Program} {w : World} {K : W.Frag} {tg : Expr} (a it : Addr) : Turn P w K tg (Itt K a) [it] it (fun i h=>h.IsTupleIter it a i) where
 mem:=by simp
 obj:=fun i h st b hb=>by
  have e : b = it:=by simpa using hb
  subst e
  obtain ⟨o,e,c,d⟩:=st
  exact ⟨o,e,fun v z=>by rw [d] at z; cases z⟩
 keep:=fun i h h' st k=>st.at fun o e=>k it (by simp) o e
 item:=by
  intro X hP hw hK hc i pins s σ H E I hf st hg
  subst hP hw hK
  obtain ⟨xs,x,hq,hx⟩:=hg
  obtain ⟨its,rv,p,hz⟩:=I.tuple hq
  obtain ⟨u,hu,ru⟩:=rv.get hx
  obtain ⟨f0,f1,f2,f3,f4,f5⟩:=hf it (by simp)
  refine wpAny_pyNext_tuple_item st (show s.heap.IsTuple a its.toArray from p) (x:=u) (by simpa using hu) fun h' st' sb=>?_
  have I1 : Inv X pins σ H { s with heap:=h' }:=I.turned (t':=s.toks) (fun b o hb e=>(sb.2 b hb).trans e) f0 f1 f3 f4 f5
  obtain ⟨o,e,c,d⟩:=id st'
  exact ⟨u,rfl,xH (s:={ s with heap:=h' }) e c d (by decide) ⟨x,H,I1,ru,⟨rfl,fun ys hy=>by rw [I.tuple_inj hy hq]; exact hx⟩,st',fun b hb=>(hf b hb).1⟩⟩
 done:=by
  intro X hP hw hK hc i pins s σ H E I hf st hg
  subst hP hw hK
  obtain ⟨xs,hq,hx⟩:=hg
  obtain ⟨its,rv,p,hz⟩:=I.tuple hq
  obtain ⟨f0,f1,f2,f3,f4,f5⟩:=hf it (by simp)
  have hl:=rv.length
  exact wpAny_pyNext_tuple_end (I.ok.hd hc) st (show s.heap.IsTuple a its.toArray from p) (by simp; omega) fun h' eb=>⟨rfl,I.turned (t':=s.toks) (fun b o hb e=>eb b o hb e) f0 f1 f3 f4 f5⟩
 self:=fun _ _ _ _ _ st h=>wpAny_pyIter_tupleiter st h
theorem xJ {P : Program} {w : World} {K : PySem.W.Frag} {tg : Expr} (it : Addr) (lo : Int) (n : Nat) : Turn P w K tg (Itr lo n) [it] it (fun i h=>IsRangeIter h it (lo + (i : Nat) * 1) ((n : Int) - (i : Nat)) 1) where
 mem:=by simp
 obj:=fun i h st b hb=>by
  have e : b = it:=by simpa using hb
  subst e
  exact ⟨_,st,fun v z=>by
   have z' : Data.fields _ = Data.cell v:=z
   cases z'⟩
 keep:=fun i h h' st k=>k it (by simp) _ st
 item:=by
  intro X hP hw hK hc i pins s σ H E I hf st hg
  subst hP hw hK
  obtain ⟨f0,f1,f2,f3,f4,f5⟩:=hf it (by simp)
  have W:=Walks.range (prog:=X.prog) (w:=X.w) (I.ok.hd hc) it lo 1 n
  refine W.item i s _ _ hg st fun v h' tk hv st' kk=>?_
  obtain ⟨t,rfl⟩:=hv
  have I1 : Inv X pins σ H { s with heap:=h',toks:=tk }:=I.turned (fun b o hb e=>kk b o (by simpa using hb) e) f0 f1 f3 f4 f5
  refine ⟨_,rfl,xH (s:={ s with heap:=h',toks:=tk }) (n := "range_iterator") st' rfl rfl (by decide) ⟨.int (lo + i),H,I1,⟨t,?_⟩,⟨rfl,rfl⟩,st',fun b hb=>(hf b hb).1⟩⟩
  rw [Int.mul_one]
 done:=by
  intro X hP hw hK hc i pins s σ H E I hf st hg
  subst hP hw hK
  obtain ⟨f0,f1,f2,f3,f4,f5⟩:=hf it (by simp)
  exact wpAny_pyNext_range_end (I.ok.hd hc) st (by have : n ≤ i:=hg; omega) fun h' eb=>⟨rfl,I.turned (t':=s.toks) (fun b o hb e=>eb b o hb e) f0 f1 f3 f4 f5⟩
 self:=fun _ _ _ _ _ st h=>wpAny_pyIter_rangeiter st h
end L2
namespace L2
open PySem PySem.Spec PyProof.Rows
section
variable {X : Cx} {tg : Expr}
def aCe (K : W.Frag) (tl : TE) : TI:=fun σ H R=>tl σ H fun x H1=>∃ a,x = .ref a∧(∃ xs,SqL K H1 a xs)∧R (Itl K a) H1
def iTup (K : W.Frag) (tl : TE) : TI:=fun σ H R=>tl σ H fun x H1=>∃ a,x = .ref a∧(∃ xs,SqT K H1 a xs)∧R (Itt K a) H1
theorem bX {l : Expr} {tl : TE} (hl : PE X l tl) : PI X tg l (aCe X.K tl):=by
 intro pins s σ H R I h
 refine thn (hl pins s σ H _ I h) fun v s1 ⟨x,H1,I1,r1,q1⟩=>?_
 obtain ⟨a,e,⟨xs,hq⟩,q⟩:=q1
 subst e
 cases r1
 obtain ⟨its,rv,p,hz⟩:=I1.list hq
 refine wpAny_pyIter_list p.isList ?_
 refine ⟨s1.heap.objs.size,[s1.heap.objs.size],_,_,H1,rfl,I1.kept (t':=s1.toks) fun b o e=>Heap.get?_push_of_some _ e,zN a _,⟨_,Heap.get?_push_size _ rfl,rfl,rfl⟩,fun b hb=>?_,q⟩
 have e : b = s1.heap.objs.size:=by simpa using hb
 subst e
 exact I1.fpOk (Nat.le_refl _) (I1.hok.fresh (Nat.le_refl _))
theorem iZ {l : Expr} {tl : TE} (hl : PE X l tl) : PI X tg l (iTup X.K tl):=by
 intro pins s σ H R I h
 refine thn (hl pins s σ H _ I h) fun v s1 ⟨x,H1,I1,r1,q1⟩=>?_
 obtain ⟨a,e,⟨xs,hq⟩,q⟩:=q1
 subst e
 cases r1
 obtain ⟨its,rv,p,hz⟩:=I1.tuple hq
 refine wpAny_pyIter_tuple (show s1.heap.IsTuple a its.toArray from p) ?_
 refine ⟨s1.heap.objs.size,[s1.heap.objs.size],_,_,H1,rfl,I1.kept (t':=s1.toks) fun b o e=>Heap.get?_push_of_some _ e,xI a _,⟨_,Heap.get?_push_size _ rfl,rfl,rfl⟩,fun b hb=>?_,q⟩
 have e : b = s1.heap.objs.size:=by simpa using hb
 subst e
 exact I1.fpOk (Nat.le_refl _) (I1.hok.fresh (Nat.le_refl _))
theorem aBo {pins : List (Addr × Obj)} {σ : St} {H : Hp} {s : Shared} {R : It→Hp→Prop} {E : Value→Shared→Prop} {lo hi : Int} {t u v : Tok} {tk : Nat} (I : Inv X pins σ H s) (h1 : -(2 ^ 62) ≤ lo) (h2 : lo < 2 ^ 62) (h3 : -(2 ^ 62) ≤ hi) (h4 : hi < 2 ^ 62)
  (q : R (Itr lo (hi - lo).toNat) H) : wpAny (model X.prog X.w) X.A (pyIter (.ref s.heap.objs.size)) (PIE X pins σ tg R) E { s with heap:=s.heap.push { cls:=.type "range",data:=.fields #[.int lo t,.int hi u,.int 1 v] },toks:=tk }:=by
 refine wpAny_pyIter_range (IsRange.new ..) (small_one h1 h2 h3 h4) ?_
 have I1 : Inv X pins σ H { s with heap:=s.heap.push { cls:=.type "range",data:=.fields #[.int lo t,.int hi u,.int 1 v] },toks:=tk }:=I.kept fun b o e=>Heap.get?_push_of_some _ e
 refine ⟨(s.heap.push { cls:=.type "range",data:=.fields #[.int lo t,.int hi u,.int 1 v] }).objs.size,[(s.heap.push { cls:=.type "range",data:=.fields #[.int lo t,.int hi u,.int 1 v] }).objs.size],_,_,H,rfl,
  I1.kept (t':=tk) fun b o e=>Heap.get?_push_of_some _ e,xJ _ lo (hi - lo).toNat,?_,fun b hb=>?_,q⟩
 ·have e1 : lo + ((0 : Nat) : Int) * 1 = lo:=by simp
  have e2 : (((hi - lo).toNat : Nat) : Int) - ((0 : Nat) : Int) = Builtin.Range.rangeSize lo hi 1:=by rw [rangeSize_one]; split <;> omega
  show IsRangeIter _ _ (lo + ((0 : Nat) : Int) * 1) ((((hi - lo).toNat : Nat) : Int) - ((0 : Nat) : Int)) 1
  rw [e1,e2]
  exact Heap.get?_push_size _ rfl
 ·have e : b = (s.heap.push { cls:=.type "range",data:=.fields #[.int lo t,.int hi u,.int 1 v] }).objs.size:=by simpa using hb
  subst e
  exact I1.fpOk (Nat.le_refl _) (I1.hok.fresh (Nat.le_refl _))
def aEu (ta : TA) : TI:=fun σ H R=>ta σ H fun vs H1=>∃ j : Int,vs = [.int j]∧-(2 ^ 62) ≤ j∧j < 2 ^ 62∧R (Itr 0 j.toNat) H1
theorem cA {a : Expr} {ta : TA} {p pos : Pos} (hg : Gl X "range") (hm : X.mg "range" = none) (ha : PA X [a] ta) (hs : starEach [a] X.env = [(false,eval a X.env)]:=by rfl) : PI X tg (.Call (.Name "range" p) [a] [] pos) (aEu ta):=by
 intro pins s σ H R I h
 refine Call_ (iX I hg hm boot_range (PyProof.Rows.callWith_type1 (thn (ha pos pins s σ H _ I h) fun us s1 ⟨vs,H1,I1,r1,q1⟩=>?_) hs rfl))
 obtain ⟨j,e,q1,q2,q⟩:=q1
 subst e
 cases r1 with
 | cons r rr =>
  cases rr
  obtain ⟨t,rfl⟩:=r
  exact call_range_1 (aBo I1 (by omega) (by omega) q1 q2 (by simpa using q))
def tFor (wi : TI) (g : TG) (tb : TS) : TS:=fun D σ H=>wi σ H fun J H1=>∃ W : Nat→Nat→St→Hp→Prop,(∃ m,W 0 m σ H1)∧∀ i m σ H,W i m σ H →
 (J.stop i H∧D.nx σ H)∨(J.go i H∧∃ N : St→Hp→Prop,(∀ σ' H',N σ' H'→∃ m',m' < m∧W (i + 1) m' σ' H')∧∀ x H',J.yld i H x H'→g x σ H' fun σ2 H2=>tb { D with nx:=N,ct:=N,bk:=D.nx } σ2 H2)
def kM (fp : List Addr) (h : Heap) : List (Addr × Obj):=fp.filterMap fun b=>(h.get? b).map fun o=>(b,o)
theorem gP {fp : List Addr} {h : Heap} {b : Addr} {o : Obj} (hb : b∈fp) (e : h.get? b = some o) : (b,o)∈kM fp h:=List.mem_filterMap.mpr ⟨b,hb,by rw [e]; rfl⟩
theorem zO {fp : List Addr} {h : Heap} {p : Addr × Obj} (hp : p∈kM fp h) : p.1∈fp∧h.get? p.1 = some p.2:=by
 obtain ⟨b,hb,e⟩:=List.mem_filterMap.mp hp
 cases q : h.get? b with
 | none=>rw [q] at e; cases e
 | some o =>
  rw [q] at e
  have e' : (b,o) = p:=Option.some.inj e
  subst e'
  exact ⟨hb,q⟩
theorem Inv.pinned {pins : List (Addr × Obj)} {σ : St} {H : Hp} {s : Shared} {fp : List Addr} (I : Inv X pins σ H s) (hf : ∀ b∈fp,FpOk X pins H b) (ho : ∀ b∈fp,∃ o,s.heap.get? b = some o∧∀ v,o.data ≠ .cell v) : Inv X (pins ++ kM fp s.heap) σ H s :=
 I.pins_of fun p hp=>(List.mem_append.mp hp).elim (fun z=>I.pin p (List.mem_append_right _ z)) fun z=>by
  obtain ⟨hb,e⟩:=zO z
  obtain ⟨f0,f1,f2,_⟩:=hf p.1 hb
  obtain ⟨o,e',d⟩:=ho p.1 hb
  rw [e] at e'; cases e'
  exact ⟨e,f0,f1,f2,d⟩
theorem Inv.unpinned {pins pl : List (Addr × Obj)} {σ : St} {H : Hp} {s : Shared} (I : Inv X (pins ++ pl) σ H s) : Inv X pins σ H s:=I.pins_of fun p hp=>I.pin p (List.mem_append_right _ (List.mem_append_left _ hp))
theorem cJ {iter : Expr} {body : List Stmt} {wi : TI} {g : TG} {tb : TS} {pos : Pos} (hp : PassesOwn (model X.prog X.w) X.A X.env X.xe) (hc : X.calm = true) (hi : PI X tg iter wi) (hg : PG X tg g) (hb : PSs X body tb)
  (hs : ∀ x,foldedSetIterable iter X.env x = pure x:=by intro _; rfl) : PS X (.For tg iter body [] pos) (tFor wi g tb):=by
 intro pins s σ H D I h
 refine wpAny_For (thn (hi pins s σ H _ I h) fun v s1 h1=>thn h1 fun itv s2 h2=>?_) hs
 obtain ⟨it,fp,tn,J,H2,e,I2,T,st2,f2,W,⟨m0,w0⟩,turn⟩:=h2
 subst e
 have stat : ∀ {H' : Hp},(∀ b∈fp,H' b = none)→∀ b∈fp,FpOk X pins H' b:=fun hn b hb=>⟨hn b hb,(f2 b hb).2⟩
 refine codeAny_forLoop_any (fun n s'=>∃ i σ' H',Inv X pins σ' H' s'∧tn i s'.heap∧(∀ b∈fp,H' b = none)∧W i n σ' H') ?_ m0 ⟨0,σ,H2,I2,st2,fun b hb=>(f2 b hb).1,w0⟩
 rintro n s3 ⟨i,σ3,H3,I3,st3,fr3,w3⟩
 rcases turn i n σ3 H3 w3 with ⟨stop,qn⟩ | ⟨go,N,hN,step⟩
 ·refine wpAny_passesOwn hp (thn (T.done X rfl rfl rfl hc i pins s3 σ3 H3 X.xe I3 (stat fr3) st3 stop) fun r s4 ⟨hr,I4⟩=>?_)
  subst hr
  exact wpAny_execs_nil ⟨σ3,H3,I4,qn⟩
 ·refine wpAny_passesOwn hp (thn (T.item X rfl rfl rfl hc i pins s3 σ3 H3 X.xe I3 (stat fr3) st3 go) fun r s4 ⟨u,hr,h4⟩=>?_)
  subst hr
  refine wpAny_passesOwn hp (thn h4 fun _ s5 ⟨x,H5,I5,r5,y5,st5,fr5⟩=>?_)
  have I5':=I5.pinned (stat fr5) (T.obj _ _ st5)
  refine wpAny_passesOwn hp (thn (hg _ s5 σ3 H5 x u _ I5' r5 (step x H5 y5)) fun _ s6 ⟨σ6,H6,I6,q6⟩=>?_)
  refine wpAny_passesOwn hp (thn (hb _ s6 σ6 H6 _ I6 q6) fun f s7 q7=>?_)
  have again : ∀ {σ7 : St} {H7 : Hp},Inv X (pins ++ kM fp s5.heap) σ7 H7 s7→N σ7 H7→∃ m,m < n∧∃ i σ' H',Inv X pins σ' H' s7∧tn i s7.heap∧(∀ b∈fp,H' b = none)∧W i m σ' H':=fun {σ7 H7} I7 n7=>by
   obtain ⟨m',hm,w7⟩:=hN σ7 H7 n7
   refine ⟨m',hm,i + 1,σ7,H7,I7.unpinned,T.keep _ _ _ st5 fun b hb o e=>(I7.pin (b,o) (List.mem_append_right _ (List.mem_append_right _ (gP hb e)))).1,fun b hb=>?_,w7⟩
   obtain ⟨o,e,d⟩:=T.obj _ _ st5 b hb
   exact (I7.pin (b,o) (List.mem_append_right _ (List.mem_append_right _ (gP hb e)))).2.1
  cases f with
  | next=>obtain ⟨σ7,H7,I7,n7⟩:=q7; exact again I7 n7
  | cont=>obtain ⟨σ7,H7,I7,n7⟩:=q7; exact again I7 n7
  | brk=>obtain ⟨σ7,H7,I7,q7⟩:=q7; exact ⟨σ7,H7,I7.unpinned,q7⟩
  | ret v=>obtain ⟨x7,σ7,H7,I7,r7,q7⟩:=q7; exact ⟨x7,σ7,H7,I7.unpinned,r7,q7⟩
end
theorem eT {K : PySem.W.Frag} {a : Addr} {xs : List V} {g : TG} {tb : TS} {D : Ends} {σ : St} {H : Hp} (Pv : Nat→St→Hp→Prop) (h0 : Pv 0 σ H) (hl : ∀ i σ H,i ≤ xs.length→Pv i σ H→SqL K H a xs)
  (hs : ∀ i x σ H,xs[i]? = some x→Pv i σ H→g x σ H fun σ2 H2=>tb { D with nx:=Pv (i + 1),ct:=Pv (i + 1),bk:=D.nx } σ2 H2) (hd : ∀ σ H,Pv xs.length σ H→D.nx σ H) :
  ∃ W : Nat→Nat→St→Hp→Prop,(∃ m,W 0 m σ H)∧∀ i m σ H,W i m σ H →
   ((Itl K a).stop i H∧D.nx σ H)∨((Itl K a).go i H∧∃ N : St→Hp→Prop,(∀ σ' H',N σ' H'→∃ m',m' < m∧W (i + 1) m' σ' H')∧∀ x H',(Itl K a).yld i H x H'→g x σ H' fun σ2 H2=>tb { D with nx:=N,ct:=N,bk:=D.nx } σ2 H2):=by
 refine ⟨fun i m σ H=>m = xs.length - i∧i ≤ xs.length∧Pv i σ H,⟨xs.length,by simp,Nat.zero_le _,h0⟩,?_⟩
 rintro i m σ H ⟨rfl,hi,p⟩
 have q:=hl i σ H hi p
 by_cases hlt : i < xs.length
 ·refine .inr ⟨⟨xs,xs[i],q,by simp [hlt]⟩,Pv (i + 1),fun σ' H' p'=>⟨xs.length - (i + 1),by omega,rfl,hlt,p'⟩,fun x H' y=>?_⟩
  obtain ⟨e,y⟩:=y
  subst e
  exact hs i x σ _ (y xs q) p
 ·have e : i = xs.length:=by omega
  subst e
  exact .inl ⟨⟨xs,q,Nat.le_refl _⟩,hd σ H p⟩
theorem jA {K : PySem.W.Frag} {a : Addr} {xs : List V} {g : TG} {tb : TS} {D : Ends} {σ : St} {H : Hp} (Pv : Nat→St→Hp→Prop) (h0 : Pv 0 σ H) (hl : ∀ i σ H,i ≤ xs.length→Pv i σ H→SqT K H a xs)
  (hs : ∀ i x σ H,xs[i]? = some x→Pv i σ H→g x σ H fun σ2 H2=>tb { D with nx:=Pv (i + 1),ct:=Pv (i + 1),bk:=D.nx } σ2 H2) (hd : ∀ σ H,Pv xs.length σ H→D.nx σ H) :
  ∃ W : Nat→Nat→St→Hp→Prop,(∃ m,W 0 m σ H)∧∀ i m σ H,W i m σ H →
   ((Itt K a).stop i H∧D.nx σ H)∨((Itt K a).go i H∧∃ N : St→Hp→Prop,(∀ σ' H',N σ' H'→∃ m',m' < m∧W (i + 1) m' σ' H')∧∀ x H',(Itt K a).yld i H x H'→g x σ H' fun σ2 H2=>tb { D with nx:=N,ct:=N,bk:=D.nx } σ2 H2):=by
 refine ⟨fun i m σ H=>m = xs.length - i∧i ≤ xs.length∧Pv i σ H,⟨xs.length,by simp,Nat.zero_le _,h0⟩,?_⟩
 rintro i m σ H ⟨rfl,hi,p⟩
 have q:=hl i σ H hi p
 by_cases hlt : i < xs.length
 ·refine .inr ⟨⟨xs,xs[i],q,by simp [hlt]⟩,Pv (i + 1),fun σ' H' p'=>⟨xs.length - (i + 1),by omega,rfl,hlt,p'⟩,fun x H' y=>?_⟩
  obtain ⟨e,y⟩:=y
  subst e
  exact hs i x σ _ (y xs q) p
 ·have e : i = xs.length:=by omega
  subst e
  exact .inl ⟨⟨xs,q,Nat.le_refl _⟩,hd σ H p⟩
theorem eA {lo : Int} {n : Nat} {g : TG} {tb : TS} {D : Ends} {σ : St} {H : Hp} (Pv : Nat→St→Hp→Prop) (h0 : Pv 0 σ H)
  (hs : ∀ i σ H,i < n→Pv i σ H→g (.int (lo + i)) σ H fun σ2 H2=>tb { D with nx:=Pv (i + 1),ct:=Pv (i + 1),bk:=D.nx } σ2 H2) (hd : ∀ σ H,Pv n σ H→D.nx σ H) :
  ∃ W : Nat→Nat→St→Hp→Prop,(∃ m,W 0 m σ H)∧∀ i m σ H,W i m σ H →
   ((Itr lo n).stop i H∧D.nx σ H)∨((Itr lo n).go i H∧∃ N : St→Hp→Prop,(∀ σ' H',N σ' H'→∃ m',m' < m∧W (i + 1) m' σ' H')∧∀ x H',(Itr lo n).yld i H x H'→g x σ H' fun σ2 H2=>tb { D with nx:=N,ct:=N,bk:=D.nx } σ2 H2):=by
 refine ⟨fun i m σ H=>m = n - i∧i ≤ n∧Pv i σ H,⟨n,by simp,Nat.zero_le _,h0⟩,?_⟩
 rintro i m σ H ⟨rfl,hi,p⟩
 by_cases hlt : i < n
 ·refine .inr ⟨hlt,Pv (i + 1),fun σ' H' p'=>⟨n - (i + 1),by omega,rfl,hlt,p'⟩,fun x H' y=>?_⟩
  obtain ⟨e,y⟩:=y
  subst e y
  exact hs i σ _ hlt p
 ·have e : i = n:=by omega
  subst e
  exact .inl ⟨Nat.le_refl _,hd σ H p⟩
theorem sG {c : TT} {tb : TS} {D : Ends} {σ : St} {H : Hp} (Pv : St→Hp→Prop) (μ : St→Hp→Nat) (h0 : Pv σ H)
  (hs : ∀ σ H,Pv σ H→c σ H fun b H1=>if b = true then tb { D with nx:=fun σ' H'=>Pv σ' H'∧μ σ' H' < μ σ H,ct:=fun σ' H'=>Pv σ' H'∧μ σ' H' < μ σ H,bk:=D.nx } σ H1 else D.nx σ H1)
  (mono : ∀ σ H Q Q',(∀ b H1,Q b H1→Q' b H1)→c σ H Q→c σ H Q') : zM c tb D σ H:=by
 refine ⟨fun m σ H=>m = μ σ H∧Pv σ H,⟨_,rfl,h0⟩,?_⟩
 rintro m σ H ⟨rfl,p⟩
 refine mono σ H _ _ (fun b H1 q=>?_) (hs σ H p)
 cases b with
 | true=>exact ⟨_,fun σ' H' ⟨p',l⟩=>⟨_,l,rfl,p'⟩,q⟩
 | false=>exact q
end L2
namespace L2
open PySem PySem.Spec PyProof.Rows
abbrev R2:=V→V→Hp→VK→Prop
def OpR (X : Cx) (f : Value→Value→Sem Value) (r : R2) : Prop :=
 ∀ (pins : List (Addr × Obj)) (s : Shared) (σ : St) (H : Hp) (x y : V) (v u : Value) (Q : VK),Inv X pins σ H s→RelV x v→RelV y u→r x y H Q →
  wpAny (model X.prog X.w) X.A (f v u) (EP X pins σ Q) X.xe s
def UnR (X : Cx) (f : Value→Sem Value) (r : V→Hp→VK→Prop) : Prop :=
 ∀ (pins : List (Addr × Obj)) (s : Shared) (σ : St) (H : Hp) (x : V) (v : Value) (Q : VK),Inv X pins σ H s→RelV x v→r x H Q →
  wpAny (model X.prog X.w) X.A (f v) (EP X pins σ Q) X.xe s
def cK (X : Cx) (f : Value) (r : List V→Hp→VK→Prop) : Prop :=
 ∀ (pins : List (Addr × Obj)) (s : Shared) (σ : St) (H : Hp) (xs : List V) (us : List Value) (Q : VK),Inv X pins σ H s→Vals xs us→r xs H Q →
  wpAny (model X.prog X.w) X.A (call f us) (EP X pins σ Q) X.xe s
def tOp (r : R2) (ta tb : TE) : TE:=fun σ H Q=>ta σ H fun x H1=>tb σ H1 fun y H2=>r x y H2 Q
def tUn (r : V→Hp→VK→Prop) (ta : TE) : TE:=fun σ H Q=>ta σ H fun x H1=>r x H1 Q
def rI (C : Int→Int→Prop) (g : Int→Int→V) : R2:=fun x y H Q=>∃ i j,x = .int i∧y = .int j∧C i j∧Q (g i j) H
def rI0 (g : Int→Int→V) : R2:=fun x y H Q=>∃ i j,x = .int i∧y = .int j∧Q (g i j) H
def rU (g : Int→V) : V→Hp→VK→Prop:=fun x H Q=>∃ i,x = .int i∧Q (g i) H
section
variable {X : Cx} {a b c : Expr} {ta tb tc : TE} {pos : Pos}
theorem binT (ha : PE X a ta) (hb : PE X b tb) {pins : List (Addr × Obj)} {s : Shared} {σ : St} {H : Hp} {R : V→V→Hp→Prop} (I : Inv X pins σ H s)
  (h : ta σ H fun x H1=>tb σ H1 fun y H2=>R x y H2) {Q : Value→Shared→Prop} {f : Value→Value→Sem Value}
  (hf : ∀ v u s2 x y H2,Inv X pins σ H2 s2→RelV x v→RelV y u→R x y H2→wpAny (model X.prog X.w) X.A (f v u) Q X.xe s2) :
  wpAny (model X.prog X.w) X.A (eval a X.env) (fun v s₁=>wpAny (model X.prog X.w) X.A (eval b X.env) (fun u s₂=>wpAny (model X.prog X.w) X.A (f v u) Q X.xe s₂) X.xe s₁) X.xe s:=by
 refine thn (ha pins s σ H _ I h) fun v s1 ⟨x,H1,I1,r1,q1⟩=>?_
 refine thn (hb pins s1 σ H1 _ I1 q1) fun u s2 ⟨y,H2,I2,r2,q2⟩=>?_
 exact hf v u s2 x y H2 I2 r1 r2 q2
theorem aV {op : Operator} {r : R2} (ho : OpR X (binaryOp op) r) (ha : PE X a ta) (hb : PE X b tb) : PE X (.BinOp a op b pos) (tOp r ta tb):=by
 intro pins s σ H Q I h
 exact wpAny_BinOp (binT ha hb I h fun v u s2 x y H2 I2 rx ry q=>ho pins s2 σ H2 x y v u Q I2 rx ry q)
theorem aEv {op : UnaryOp} {r : V→Hp→VK→Prop} (ho : UnR X (unaryOp op) r) (ha : PE X a ta) : PE X (.UnaryOp op a pos) (tUn r ta):=by
 intro pins s σ H Q I h
 exact UnaryOp_ (thn (ha pins s σ H _ I h) fun v s1 ⟨x,H1,I1,r1,q1⟩=>ho pins s1 σ H1 x v Q I1 r1 q1)
theorem opI {f : Value→Value→Sem Value} {C : Int→Int→Prop} {g : Int→Int→Int}
  (rule : ∀ (i j : Int) (t u : Tok) (s : Shared) (Q : Value→Shared→Prop) (E : Value→Shared→Prop),C i j→Q (.int (g i j) s.toks) { s with toks:=s.toks + 1 }→wpAny (model X.prog X.w) X.A (f (.int i t) (.int j u)) Q E s) :
  OpR X f (rI C fun i j=>.int (g i j)):=by
 intro pins s σ H x y v u Q I rx ry h
 obtain ⟨i,j,rfl,rfl,hc,q⟩:=h
 obtain ⟨t,rfl⟩:=rx
 obtain ⟨t',rfl⟩:=ry
 exact rule i j t t' s _ _ hc ⟨.int (g i j),H,I.tok _,⟨_,rfl⟩,q⟩
theorem opI0 {f : Value→Value→Sem Value} {g : Int→Int→Int}
  (rule : ∀ (i j : Int) (t u : Tok) (s : Shared) (Q : Value→Shared→Prop) (E : Value→Shared→Prop),Q (.int (g i j) s.toks) { s with toks:=s.toks + 1 }→wpAny (model X.prog X.w) X.A (f (.int i t) (.int j u)) Q E s) :
  OpR X f (rI0 fun i j=>.int (g i j)):=by
 intro pins s σ H x y v u Q I rx ry h
 obtain ⟨i,j,rfl,rfl,q⟩:=h
 obtain ⟨t,rfl⟩:=rx
 obtain ⟨t',rfl⟩:=ry
 exact rule i j t t' s _ _ ⟨.int (g i j),H,I.tok _,⟨_,rfl⟩,q⟩
theorem opB0 {f : Value→Value→Sem Value} {g : Int→Int→Bool}
  (rule : ∀ (i j : Int) (t u : Tok) (s : Shared) (Q : Value→Shared→Prop) (E : Value→Shared→Prop),Q (.bool (g i j)) s→wpAny (model X.prog X.w) X.A (f (.int i t) (.int j u)) Q E s) :
  OpR X f (rI0 fun i j=>.bl (g i j)):=by
 intro pins s σ H x y v u Q I rx ry h
 obtain ⟨i,j,rfl,rfl,q⟩:=h
 obtain ⟨t,rfl⟩:=rx
 obtain ⟨t',rfl⟩:=ry
 exact rule i j t t' s _ _ ⟨.bl (g i j),H,I,rfl,q⟩
def CDiv (i j : Int) : Prop:=0 < j∧j < 1073741824
def CPow (i j : Int) : Prop:=0 ≤ j∧j ≤ 1000000∧i.natAbs < 2 ^ 64
def CMul (i j : Int) : Prop:=(-(2 ^ 64) < i∧i < 2 ^ 64)∨(-(2 ^ 64) < j∧j < 2 ^ 64)
theorem CMul.ok {i j : Int} (h : CMul i j) : IntMulOk i j:=by
 rcases h with ⟨h1,h2⟩ | ⟨h1,h2⟩
 ·exact .of_left (intBits_le_64 h1 h2)
 ·exact .of_right (intBits_le_64 h1 h2)
theorem cZ : OpR X (binaryOp .Add) (rI0 fun i j=>.int (i + j)):=opI0 fun _ _ _ _ _ _ _ q=>add_int q
theorem gI : OpR X (binaryOp .Sub) (rI0 fun i j=>.int (i - j)):=opI0 fun _ _ _ _ _ _ _ q=>sub_int q
theorem sI : OpR X (binaryOp .Mult) (rI CMul fun i j=>.int (i * j)):=opI fun _ _ _ _ _ _ _ hc q=>mul_int q hc.ok
theorem gZ : OpR X (binaryOp .FloorDiv) (rI CDiv fun i j=>.int (i / j)):=opI fun i j _ _ _ _ _ hc q=>by
 have h1 : (0 : Int) < j:=hc.1
 have h2 : j < 1073741824:=hc.2
 exact floordiv_int (by omega) (by rw [Int.fdiv_eq_ediv_of_nonneg i (by omega)]; exact q) (.inl (PyProof.noPylong_small (by omega)))
theorem eM : OpR X (binaryOp .Mod) (rI (fun _ j=>0 < j) fun i j=>.int (i % j)):=opI fun i j _ _ _ _ _ hc q=>by
 have h1 : (0 : Int) < j:=hc
 exact mod_int' (by omega) (by rw [Int.fmod_eq_emod_of_nonneg i (by omega)]; exact q)
theorem nU : OpR X (binaryOp .Pow) (rI CPow fun i j=>.int (i ^ j.toNat)):=opI fun _ _ _ _ _ _ _ hc q=>pow_int_small hc.1 hc.2.1 hc.2.2 q
theorem unI {f : Value→Sem Value} {g : Int→Int}
  (rule : ∀ (i : Int) (t : Tok) (s : Shared) (Q : Value→Shared→Prop) (E : Value→Shared→Prop),Q (.int (g i) s.toks) { s with toks:=s.toks + 1 }→wpAny (model X.prog X.w) X.A (f (.int i t)) Q E s) :
  UnR X f (rU fun i=>.int (g i)):=by
 intro pins s σ H x v Q I rx h
 obtain ⟨i,rfl,q⟩:=h
 obtain ⟨t,rfl⟩:=rx
 exact rule i t s _ _ ⟨.int (g i),H,I.tok _,⟨_,rfl⟩,q⟩
theorem aDM : UnR X (unaryOp .USub) (rU fun i=>.int (-i)):=unI fun _ _ _ _ _ q=>neg_int q
end
def scal : V→V→Bool
 | .non,.non=>true | .non,.int _=>true | .int _,.non=>true | .non,.bl _=>true | .bl _,.non=>true | .non,.str _=>true | .str _,.non=>true
 | .int _,.int _=>true | .bl _,.bl _=>true | .str _,.str _=>true | .byt _,.byt _=>true
 | .int _,.str _=>true | .str _,.int _=>true | .bl _,.str _=>true | .str _,.bl _=>true
 | _,_=>false
def rEq : R2:=fun x y H Q=>scal x y = true∧Q (.bl (decide (x = y))) H
def rNe : R2:=fun x y H Q=>scal x y = true∧Q (.bl (!decide (x = y))) H
theorem vP {i j : Int} : decide (V.int i = V.int j) = (i == j):=by
 rw [Bool.eq_iff_iff]
 simp
theorem zP {i j : Bool} : decide (V.bl i = V.bl j) = (i == j):=by
 rw [Bool.eq_iff_iff]
 simp
theorem vQ {i j : Str} : decide (V.str i = V.str j) = (i == j):=by
 rw [Bool.eq_iff_iff]
 simp
theorem vR {i j : Array UInt8} : decide (V.byt i = V.byt j) = (i.toList == j.toList):=by
 rw [Bool.eq_iff_iff]
 cases i
 cases j
 simp
section
variable {X : Cx} {a b c : Expr} {ta tb tc : TE} {pos : Pos}
theorem bH {pins : List (Addr × Obj)} {σ : St} {H : Hp} {s : Shared} {Q : VK} {k k' : Bool} (I : Inv X pins σ H s) (q : Q (.bl k) H) (e : k = k') : EP X pins σ Q (.bool k') s:=by
 subst e
 exact ⟨.bl k,H,I,rfl,q⟩
theorem fD : OpR X (compareOp .Eq) rEq:=by
 intro pins s σ H x y v u Q I rx ry h
 obtain ⟨hs,q⟩:=h
 cases x with
 | non =>
  cases rx
  cases y with
  | non=>cases ry; exact PySem.EqNone.eq_none_none (bH I q (by simp))
  | bl j=>cases ry; exact PySem.EqNone.eq_none_bool (bH I q (by simp))
  | int j=>obtain ⟨t',rfl⟩:=ry; exact PySem.EqNone.eq_none_int (bH I q (by simp))
  | str j=>obtain ⟨t',rfl⟩:=ry; exact PySem.EqNone.eq_none_str (bH I q (by simp))
  | _=>exact absurd (show false = true from hs) Bool.false_ne_true
 | bl i =>
  cases rx
  cases y with
  | non=>cases ry; exact PySem.EqNone.eq_bool_none (bH I q (by simp))
  | bl j=>cases ry; exact eq_bool (bH I q zP)
  | str j=>obtain ⟨t',rfl⟩:=ry; exact PySem.EqMixed.eq_bool_str (bH I q (by simp))
  | _=>exact absurd (show false = true from hs) Bool.false_ne_true
 | int i =>
  obtain ⟨t,rfl⟩:=rx
  cases y with
  | non=>cases ry; exact PySem.EqNone.eq_int_none (bH I q (by simp))
  | int j=>obtain ⟨t',rfl⟩:=ry; exact eq_int (bH I q vP)
  | str j=>obtain ⟨t',rfl⟩:=ry; exact PySem.EqMixed.eq_int_str (bH I q (by simp))
  | _=>exact absurd (show false = true from hs) Bool.false_ne_true
 | str i =>
  obtain ⟨t,rfl⟩:=rx
  cases y with
  | non=>cases ry; exact PySem.EqNone.eq_str_none (bH I q (by simp))
  | bl j=>cases ry; exact PySem.EqMixed.eq_str_bool (bH I q (by simp))
  | int j=>obtain ⟨t',rfl⟩:=ry; exact PySem.EqMixed.eq_str_int (bH I q (by simp))
  | str j=>obtain ⟨t',rfl⟩:=ry; exact eq_str (bH I q vQ)
  | _=>exact absurd (show false = true from hs) Bool.false_ne_true
 | byt i =>
  obtain ⟨t,rfl⟩:=rx
  cases y with
  | byt j=>obtain ⟨t',rfl⟩:=ry; exact W.eq_bytes (bH I q vR)
  | _=>exact absurd (show false = true from hs) Bool.false_ne_true
 | _=>cases y <;> exact absurd (show false = true from hs) Bool.false_ne_true
theorem lP : OpR X (compareOp .NotEq) rNe:=by
 intro pins s σ H x y v u Q I rx ry h
 obtain ⟨hs,q⟩:=h
 cases x with
 | non =>
  cases rx
  cases y with
  | non=>cases ry; exact PySem.EqNone.ne_none_none (bH I q (by simp))
  | bl j=>cases ry; exact PySem.EqNone.ne_none_bool (bH I q (by simp))
  | int j=>obtain ⟨t',rfl⟩:=ry; exact PySem.EqNone.ne_none_int (bH I q (by simp))
  | str j=>obtain ⟨t',rfl⟩:=ry; exact PySem.EqNone.ne_none_str (bH I q (by simp))
  | _=>exact absurd (show false = true from hs) Bool.false_ne_true
 | bl i =>
  cases rx
  cases y with
  | non=>cases ry; exact PySem.EqNone.ne_bool_none (bH I q (by simp))
  | bl j=>cases ry; exact ne_bool (bH I q (congrArg not zP))
  | str j=>obtain ⟨t',rfl⟩:=ry; exact PySem.EqMixed.ne_bool_str (bH I q (by simp))
  | _=>exact absurd (show false = true from hs) Bool.false_ne_true
 | int i =>
  obtain ⟨t,rfl⟩:=rx
  cases y with
  | non=>cases ry; exact PySem.EqNone.ne_int_none (bH I q (by simp))
  | int j=>obtain ⟨t',rfl⟩:=ry; exact ne_int (bH I q (congrArg not vP))
  | str j=>obtain ⟨t',rfl⟩:=ry; exact PySem.EqMixed.ne_int_str (bH I q (by simp))
  | _=>exact absurd (show false = true from hs) Bool.false_ne_true
 | str i =>
  obtain ⟨t,rfl⟩:=rx
  cases y with
  | non=>cases ry; exact PySem.EqNone.ne_str_none (bH I q (by simp))
  | bl j=>cases ry; exact PySem.EqMixed.ne_str_bool (bH I q (by simp))
  | int j=>obtain ⟨t',rfl⟩:=ry; exact PySem.EqMixed.ne_str_int (bH I q (by simp))
  | str j=>obtain ⟨t',rfl⟩:=ry; exact ne_str (bH I q (congrArg not vQ))
  | _=>exact absurd (show false = true from hs) Bool.false_ne_true
 | byt i =>
  obtain ⟨t,rfl⟩:=rx
  cases y with
  | byt j=>obtain ⟨t',rfl⟩:=ry; exact W.ne_bytes (bH I q (congrArg not vR))
  | _=>exact absurd (show false = true from hs) Bool.false_ne_true
 | _=>cases y <;> exact absurd (show false = true from hs) Bool.false_ne_true
theorem nV : OpR X (compareOp .Lt) (rI0 fun i j=>.bl (decide (i < j))):=opB0 fun _ _ _ _ _ _ _ q=>lt_int q
theorem jP : OpR X (compareOp .LtE) (rI0 fun i j=>.bl (decide (i ≤ j))):=opB0 fun _ _ _ _ _ _ _ q=>le_int q
theorem xK : OpR X (compareOp .Gt) (rI0 fun i j=>.bl (decide (j < i))):=opB0 fun _ _ _ _ _ _ _ q=>gt_int q
theorem nW : OpR X (compareOp .Is) (fun x y H Q=>y = .non∧Q (.bl (decide (x = .non))) H):=by
 intro pins s σ H x y v u Q I rx ry h
 obtain ⟨rfl,q⟩:=h
 cases ry
 refine is_none_gen (bH I q ?_)
 cases x <;> first
  | (cases rx; rfl)
  | (obtain ⟨t,rfl⟩:=rx; rfl)
theorem bB (b : Expr) {op : CmpOp} (h : op ≠ .In:=by decide) (h2 : op ≠ .NotIn:=by decide) : behindInMarks op b = false:=by
 have e1 : (op == CmpOp.In) = false:=by cases op <;> first | rfl | exact absurd rfl h
 have e2 : (op == CmpOp.NotIn) = false:=by cases op <;> first | rfl | exact absurd rfl h2
 cases b <;> simp [behindInMarks,e1,e2]
theorem hG {op : CmpOp} {r : R2} (ho : OpR X (compareOp op) r) (ha : PE X a ta) (hb : PE X b tb) (hm : behindInMarks op b = false) : PE X (.Compare a [op] [b] pos) (tOp r ta tb):=by
 intro pins s σ H Q I h
 exact wpAny_Compare1 (binT ha hb I h fun v u s2 x y H2 I2 rx ry q=>ho pins s2 σ H2 x y v u Q I2 rx ry q) hm
def nX (t : TE) : TT:=fun σ H Q=>t σ H fun x H'=>∃ k,x = .bl k∧Q k H'
theorem bA {op : CmpOp} {r : R2} (ho : OpR X (compareOp op) r) (ha : PE X a ta) (hb : PE X b tb) (hm : behindInMarks op b = false) : PT X (.Compare a [op] [b] pos) (nX (tOp r ta tb)):=by
 intro pins s σ H Q I h
 refine wpAny_isTrue_Compare1 (thn (ha pins s σ H _ I h) fun v s1 ⟨x,H1,I1,r1,q1⟩=>thn (hb pins s1 σ H1 _ I1 q1) fun u s2 ⟨y,H2,I2,r2,q2⟩ =>
  thn (ho pins s2 σ H2 x y v u _ I2 r1 r2 q2) fun c s3 ⟨z,H3,I3,r3,k,e,q3⟩=>?_) hm
 subst e
 cases r3
 exact wpAny_truthy_bool ⟨H3,I3,q3⟩
def zQ (r r' : R2) (ta tb tc : TE) : TE:=fun σ H Q=>ta σ H fun x H1=>tb σ H1 fun y H2=>r x y H2 fun z H3=>∃ k,z = .bl k ∧
 (if k = true then tc σ H3 fun w' H4=>r' y w' H4 Q else Q (.bl false) H3)
theorem sJ {op op' : CmpOp} {r r' : R2} (ho : OpR X (compareOp op) r) (ho' : OpR X (compareOp op') r') (ha : PE X a ta) (hb : PE X b tb) (hc : PE X c tc)
  (hm : lastMarks [op,op'] [b,c] = false:=by with_unfolding_all rfl) : PE X (.Compare a [op,op'] [b,c] pos) (zQ r r' ta tb tc):=by
 intro pins s σ H Q I h
 refine Compare_chain (thn (ha pins s σ H _ I h) fun v s1 ⟨x,H1,I1,r1,q1⟩=>chain_link (thn (hb pins s1 σ H1 _ I1 q1) fun u s2 ⟨y,H2,I2,r2,q2⟩ =>
  thn (ho pins s2 σ H2 x y v u _ I2 r1 r2 q2) fun d s3 ⟨z,H3,I3,r3,k,e,q3⟩=>?_)) hm
 subst e
 cases r3
 refine wpAny_truthy_bool ?_
 cases k with
 | false=>exact ite_ff ⟨.bl false,H3,I3,rfl,q3⟩
 | true=>exact ite_tt (chain_last (thn (hc pins s3 σ H3 _ I3 q3) fun w' s4 ⟨z',H4,I4,r4,q4⟩=>ho' pins s4 σ H4 y z' u w' Q I4 r2 r4 q4))
theorem aBp {op op' : CmpOp} {r r' : R2} (ho : OpR X (compareOp op) r) (ho' : OpR X (compareOp op') r') (ha : PE X a ta) (hb : PE X b tb) (hc : PE X c tc)
  (hm : lastMarks [op,op'] [b,c] = false:=by with_unfolding_all rfl) : PT X (.Compare a [op,op'] [b,c] pos) (nX (zQ r r' ta tb tc)):=by
 intro pins s σ H Q I h
 refine isTrue_chain (thn (ha pins s σ H _ I h) fun v s1 ⟨x,H1,I1,r1,q1⟩=>test_link (thn (hb pins s1 σ H1 _ I1 q1) fun u s2 ⟨y,H2,I2,r2,q2⟩ =>
  thn (ho pins s2 σ H2 x y v u _ I2 r1 r2 q2) fun d s3 ⟨z,H3,I3,r3,k,e,q3⟩=>?_)) hm
 subst e
 cases r3
 refine wpAny_truthy_bool ?_
 cases k with
 | false =>
  obtain ⟨k',e',q'⟩:=q3
  cases e'
  exact ite_ff ⟨H3,I3,q'⟩
 | true =>
  refine ite_tt (test_last (thn (hc pins s3 σ H3 _ I3 q3) fun w' s4 ⟨z',H4,I4,r4,q4⟩=>thn (ho' pins s4 σ H4 y z' u w' _ I4 r2 r4 q4) fun d' s5 ⟨z2,H5,I5,r5,k2,e2,q5⟩=>?_))
  subst e2
  cases r5
  exact wpAny_truthy_bool ⟨H5,I5,q5⟩
theorem nY : (sizeLine : Nat) < 2 ^ 63:=by rw [sizeLine_eq]; decide
theorem rN {x : V} {us : List Value} (r : Vals [x] us) : ∃ u,us = [u]∧RelV x u:=by
 cases r with
 | cons r1 r2=>cases r2; exact ⟨_,rfl,r1⟩
theorem aCf {x y : V} {us : List Value} (r : Vals [x,y] us) : ∃ u w',us = [u,w']∧RelV x u∧RelV y w':=by
 cases r with
 | cons r1 r2 =>
  cases r2 with
  | cons r3 r4=>cases r4; exact ⟨_,_,rfl,r1,r3⟩
theorem aBq : cK X (.builtin "abs") (fun xs H Q=>∃ i,xs = [.int i]∧Q (.int (if i < 0 then -i else i)) H):=by
 intro pins s σ H xs us Q I r h
 obtain ⟨i,rfl,q⟩:=h
 obtain ⟨u,rfl,t,rfl⟩:=rN r
 exact call_abs_int fun u tk=>⟨.int (if i < 0 then -i else i),H,I.tok _,⟨_,rfl⟩,q⟩
theorem qQ (hc : X.calm = true) : cK X (.builtin "max") (fun xs H Q=>∃ i j,xs = [.int i,.int j]∧Q (.int (if j > i then j else i)) H):=by
 intro pins s σ H xs us Q I r h
 obtain ⟨i,j,rfl,q⟩:=h
 obtain ⟨u,w',rfl,⟨t,rfl⟩,⟨t',rfl⟩⟩:=aCf r
 refine max_two_ints (I.ok.hd hc) fun h' tk k=>⟨_,H,I.kept k,?_,q⟩
 by_cases hj : j > i
 ·rw [if_pos hj,if_pos hj]; exact ⟨_,rfl⟩
 ·rw [if_neg hj,if_neg hj]; exact ⟨_,rfl⟩
theorem qR (hc : X.calm = true) : cK X (.builtin "min") (fun xs H Q=>∃ i j,xs = [.int i,.int j]∧Q (.int (if j < i then j else i)) H):=by
 intro pins s σ H xs us Q I r h
 obtain ⟨i,j,rfl,q⟩:=h
 obtain ⟨u,w',rfl,⟨t,rfl⟩,⟨t',rfl⟩⟩:=aCf r
 refine min_two_ints (I.ok.hd hc) fun h' tk k=>⟨_,H,I.kept k,?_,q⟩
 by_cases hj : j < i
 ·rw [if_pos hj,if_pos hj]; exact ⟨_,rfl⟩
 ·rw [if_neg hj,if_neg hj]; exact ⟨_,rfl⟩
end
end L2
namespace L2
open PySem PySem.Spec PyProof.Rows
structure ObjM (h : Heap) (x dx C : Addr) (mA : Str→Option Value) : Prop where
 obj : h.get? x = some (W.instObj C dx)
 ns : h.Ns1 dx mA
 ne : dx ≠ x
theorem zR {h : Heap} {dx : Addr} {mA : Str→Option Value} (n : h.Ns1 dx mA) : ∃ od,h.get? dx = some od∧∀ name,W.lookIn name od = some (mA name):=by
 obtain ⟨o,es,ep,ho,hd,hk,_,hm⟩:=n
 refine ⟨o,ho,fun name=>?_⟩
 have e:=hm name
 unfold nsFind findBy at e
 rw [← Array.find?_toList] at e
 unfold W.lookIn
 rw [hd]
 dsimp only
 split
 ·rename_i y q
  rw [q] at e
  exact congrArg some e
 ·rename_i q
  rw [q] at e
  have a : es.toList.any (·.refKey) = false:=by
   rw [List.any_eq_false]
   intro y hy
   obtain ⟨z,t,hkey⟩:=hk y (Array.mem_toList_iff.mp hy)
   simp [DictEntry.refKey,hkey]
  have a' : ¬ es.toList.any (·.refKey) = true:=by rw [a]; exact Bool.false_ne_true
  rw [if_neg a']
  exact congrArg some e
theorem ObjM.look {h : Heap} {x dx C : Addr} {mA : Str→Option Value} (I : ObjM h x dx C mA) : ∃ od,W.InstAt h x (W.instObj C dx) C (some od)∧∀ name,W.lookIn name od = some (mA name) :=
 let ⟨od,ho,hl⟩:=zR I.ns
 ⟨od,⟨I.obj,rfl,rfl,ho⟩,hl⟩
section
variable {prog : Program} {w : World} {A : Around} {E : Value→Shared→Prop} {s : Shared} {K : W.Frag} {x dx C f : Addr} {mA : Str→Option Value} {name : Str} {v : Value}
theorem aCz {expr : Bool} {Q : Value→Shared→Prop} (X : K.In s.heap) (I : ObjM s.heap x dx C mA) (hg : W.plainGet K C name = true) (hh : W.hasDictIn K C = true)
  (ha : W.findIn K (.ref C) name = some none) (hv : mA name = some v) (hv' : W.handedIn v = true) (h : Q v { s with toks:=s.toks + 1 }) :
  wpAny (model prog w) A (getAttr (.ref x) name expr) Q E s:=by
 obtain ⟨od,J,hl⟩:=I.look
 exact W.get_value X J (W.plainGet_of hg).1 (W.findObj_own hh ha rfl (by rw [hl,hv])) hv' h
theorem aBr {pl : Sem Bool} {Q : Value × List Value→Shared→Prop} (X : K.In s.heap) (I : ObjM s.heap x dx C mA) (hg : W.plainGet K C name = true)
  (hf : W.findIn K (.ref C) name = some (some (.ref f))) (ht : W.isFn K (.ref f) = true) (hv : mA name = none) (h : Q (.ref f,[.ref x]) s) :
  wpAny (model prog w) A (getMethod (.ref x) name pl) Q E s:=by
 obtain ⟨od,J,hl⟩:=I.look
 exact W.method_fn X J (W.plainGet_of hg).1 (W.plainGet_of hg).2 hf (beq_iff_eq.mp ht) (by show (W.lookIn name od).map (·.isSome) = some false; rw [hl,hv]; rfl) h
theorem aCA {ns : List Str} {Q : Unit→Shared→Prop} (X : K.In s.heap) (I : ObjM s.heap x dx C mA)
  (hs : W.findIn K (.ref C) "__setattr__" = some (some (.builtin "object.__setattr__"))) (hp : W.plainOver K C = true) (ht : W.takerIn K C name = some none) (hh : W.hasDictIn K C = true)
  (hw : PySem.Within mA ns) (hsz : ns.length ≤ sizeLine)
  (h : ∀ h',ObjM h' x dx C (fun y=>if y = name then some v else mA y)→Heap.SameBut dx s.heap h'→Q () { s with heap:=h',toks:=s.toks + 2 }) :
  wpAny (model prog w) A (setAttr (.ref x) name v) Q E s:=by
 obtain ⟨od,J,hl⟩:=I.look
 refine W.set_plain X J hs (W.osa_open (s:={ s with toks:=s.toks + 1 }) (r:=none) X J hp ht fun b=>?_)
 obtain ⟨cd,hc,hd'⟩:=W.any_some hh
 have hx : s.heap.get? x = some ⟨.ref C,some dx,.plain,#[]⟩:=I.obj
 refine wpAny_bind (wpAny_pure (wpAny_bind (wpAny_bind (wpAny_loadPart hx (wpAny_bind (W.Looks.here (s:={ s with toks:=s.toks + 1 }) (W.looks_clsIn X hc) ?_))))))
 rw [hd']
 refine wpAny_pure (a:=some dx) (wpAny_bind (wpAny_pure (wpAny_bind ?_)))
 refine wpAny_nsSet1 (s:={ s with toks:=s.toks + 1 }) I.ns fun h' hn2 hs2=>?_
 obtain ⟨oD,esD,epD,hoD,hdD,hcD⟩:=hn2.count (PySem.Within.cons name v hw)
 refine wpAny_bind (wpAny_lookBehind hoD (by rw [hdD]; exact pastItsLine_dict (Nat.le_trans hcD (by rw [List.length_cons]; omega))) ?_)
 exact wpAny_pure (h _ ⟨(hs2.2 _ (Ne.symm I.ne)).trans I.obj,hn2,I.ne⟩ hs2)
theorem aBs {R : Result→Shared→Prop} {vs : List Value} {kw : List (Str × Value)} (X : K.In s.heap) (hm : W.makesIn K C = true)
  (hi : W.findIn K (.ref C) "__init__" = some (some (.ref f))) (hf : W.typeIn K (.ref f) = some (.type "function"))
  (h : codeAny (model prog w) (A.under (.builtin "type.__call__" ⟨.ref C :: vs,kw⟩)) (.call (.ref f) ⟨.ref (s.heap.objs.size + 1) :: vs,kw⟩) (W.InitBack (s.heap.objs.size + 1) R)
   { s with heap:=(s.heap.push W.emptyDict).push (W.instObj C s.heap.objs.size) }) :
  codeAny (model prog w) A (.call (.ref C) ⟨vs,kw⟩) R s:=by
 obtain ⟨hh,g,d,t,os⟩:=s
 exact W.make_core (W.makes_of X hm) (W.looks_findIn X hi) (fun self=>W.bind_fn X self hf) (.inl rfl) h
end
def putF (f : Str) (v : V) : List (Str × V)→List (Str × V)
 | []=>[(f,v)]
 | (g,x) :: r=>if g = f then (g,v) :: r else (g,x) :: putF f v r
theorem bC (f g : Str) (v : V) : ∀ fs : List (Str × V),(putF f v fs).lookup g = if g = f then some v else fs.lookup g
 | []=>by
  show List.lookup g [(f,v)] = _
  by_cases h : g = f
  ·have hb : (g == f) = true:=beq_iff_eq.mpr h
   simp only [List.lookup,hb,if_pos h]
  ·have hb : (g == f) = false:=beq_eq_false_iff_ne.mpr h
   simp only [List.lookup,hb,if_neg h]
 | (k,x) :: r=>by
  have ih:=bC f g v r
  rw [show putF f v ((k,x) :: r) = (if k = f then (k,v) :: r else (k,x) :: putF f v r) from rfl]
  by_cases hk : k = f
  ·rw [if_pos hk]
   by_cases h : g = k
   ·have hb : (g == k) = true:=beq_iff_eq.mpr h
    simp only [List.lookup,hb,if_pos (h.trans hk)]
   ·have hb : (g == k) = false:=beq_eq_false_iff_ne.mpr h
    simp only [List.lookup,hb,if_neg (fun e : g = f=>h (e.trans hk.symm))]
  ·rw [if_neg hk]
   by_cases h : g = k
   ·have hb : (g == k) = true:=beq_iff_eq.mpr h
    simp only [List.lookup,hb,if_neg (fun e : g = f=>hk (h.symm.trans e))]
   ·have hb : (g == k) = false:=beq_eq_false_iff_ne.mpr h
    simp only [List.lookup,hb]
    exact ih
theorem kN (f : Str) (v : V) : ∀ fs : List (Str × V),f∈(putF f v fs).map (·.1)∧∀ g,g∈fs.map (·.1)→g∈(putF f v fs).map (·.1)
 | []=>⟨by simp [putF],fun g h=>by simp at h⟩
 | (k,x) :: r=>by
  obtain ⟨i1,i2⟩:=kN f v r
  rw [show putF f v ((k,x) :: r) = (if k = f then (k,v) :: r else (k,x) :: putF f v r) from rfl]
  by_cases hk : k = f
  ·rw [if_pos hk]
   subst hk
   exact ⟨by simp,fun g h=>by simpa using h⟩
  ·rw [if_neg hk]
   refine ⟨?_,fun g h=>?_⟩
   ·rw [List.map_cons]
    exact List.mem_cons_of_mem _ i1
   ·rw [List.map_cons] at h ⊢
    rcases List.mem_cons.mp h with e | e
    ·exact List.mem_cons.mpr (.inl e)
    ·exact List.mem_cons_of_mem _ (i2 g e)
theorem dC (f : Str) (v : V) : ∀ fs : List (Str × V),(putF f v fs).length ≤ fs.length + 1
 | []=>by simp [putF]
 | (k,x) :: r=>by
  have ih:=dC f v r
  rw [show putF f v ((k,x) :: r) = (if k = f then (k,v) :: r else (k,x) :: putF f v r) from rfl]
  by_cases hk : k = f
  ·rw [if_pos hk,List.length_cons,List.length_cons]; omega
  ·rw [if_neg hk,List.length_cons,List.length_cons]; omega
theorem RelO.some_of {v : V} {o : Option Value} (r : RelO (some v) o) : ∃ u,o = some u∧RelV v u:=by
 cases o with
 | none=>exact (show False from r).elim
 | some u=>exact ⟨u,rfl,r⟩
theorem RelO.none_of {o : Option Value} (r : RelO none o) : o = none:=by
 cases o with
 | none=>rfl
 | some u=>exact (show False from r).elim
theorem zS {v : V} {u : Value} (r : RelV v u) : W.handedIn u = true:=by
 cases v with
 | non=>cases (show u = Value.none from r); rfl
 | bl b=>cases (show u = Value.bool b from r); rfl
 | int i=>obtain ⟨t,e⟩:=(show ∃ t,u = Value.int i t from r); cases e; rfl
 | str x=>obtain ⟨t,e⟩:=(show ∃ t,u = Value.str x t from r); cases e; rfl
 | byt b=>obtain ⟨t,e⟩:=(show ∃ t,u = Value.bytes b t from r); cases e; rfl
 | flt b=>obtain ⟨t,e⟩:=(show ∃ t,u = Value.float b t from r); cases e; rfl
 | ref a=>cases (show u = Value.ref a from r); rfl
 | ty n=>cases (show u = Value.type n from r); rfl
section
variable {P : Program} {w : World} {H H' : Hp} {h h' : Heap} {a C dx : Addr} {fs fs' : List (Str × V)}
theorem lQ (hok : HOk P w H h) (e : H a = some (.ins C dx fs)) : ∃ mA,ObjM h a dx C mA∧(∀ f,RelO (fs.lookup f) (mA f))∧PySem.Within mA (fs.map (·.1))∧fs.length ≤ 1000∧H dx = some (.own a):=by
 obtain ⟨d,z,ne,ob,mA,n,r,q⟩:=(show bN P w H h a (.ins C dx fs) from hok a _ e)
 exact ⟨mA,⟨ob,n,ne⟩,r,q,z,d⟩
end
structure Cls (K : W.Frag) (C : Addr) : Prop where
 pg : W.plainGet K C Str.empty = true
 hd : W.hasDictIn K C = true
 po : W.plainOver K C = true
 sa : W.findIn K (.ref C) "__setattr__" = some (some (.builtin "object.__setattr__"))
theorem Cls.get {K : W.Frag} {C : Addr} (c : Cls K C) (f : Str) : W.plainGet K C f = true:=c.pg
def eN (K : W.Frag) (C : Addr) (f : Str) : Prop:=W.findIn K (.ref C) f = some none
theorem eN.taker {K : W.Frag} {C : Addr} {f : Str} (n : eN K C f) : W.takerIn K C f = some none:=by
 unfold W.takerIn
 rw [show W.findIn K (.ref C) f = some none from n]
 rfl
structure Meth (K : W.Frag) (C : Addr) (m : Str) (f : Addr) : Prop where
 at_ : W.findIn K (.ref C) m = some (some (.ref f))
 fn : W.isFn K (.ref f) = true
 kp : W.keepIn K (.ref f) = true
section
variable {X : Cx} {pins : List (Addr × Obj)} {σ : St} {H : Hp} {s : Shared} {a C dx : Addr} {fs : List (Str × V)} {f : Str} {v : V} {A : Around} {E : Value→Shared→Prop}
theorem xL {b : Bool} {Q : Value→Shared→Prop} (I : Inv X pins σ H s) (e : H a = some (.ins C dx fs)) (c : Cls X.K C) (n : eN X.K C f) (l : fs.lookup f = some v)
  (h : ∀ u s',Inv X pins σ H s'→RelV v u→Q u s') : wpAny (model X.prog X.w) A (getAttr (.ref a) f b) Q E s:=by
 obtain ⟨mA,O,r,_,_,_⟩:=lQ I.hok e
 obtain ⟨u,hu,ru⟩:=RelO.some_of (v:=v) (o:=mA f) (by rw [← l]; exact r f)
 exact aCz I.kIn O (c.get f) c.hd n hu (zS ru) (h u _ (I.tok _) ru)
theorem nZ {m : Str} {g : Addr} {pl : Sem Bool} {Q : Value × List Value→Shared→Prop} (I : Inv X pins σ H s) (e : H a = some (.ins C dx fs)) (c : Cls X.K C) (k : Meth X.K C m g) (l : fs.lookup m = none)
  (h : Q (.ref g,[.ref a]) s) : wpAny (model X.prog X.w) A (getMethod (.ref a) m pl) Q E s:=by
 obtain ⟨mA,O,r,_,_,_⟩:=lQ I.hok e
 have hn : mA m = none:=RelO.none_of (by rw [← l]; exact r m)
 exact aBr I.kIn O (c.get m) k.at_ k.fn hn h
theorem xM {y : V} {u : Value} {Q : Unit→Shared→Prop} (I : Inv X pins σ H s) (e : H a = some (.ins C dx fs)) (c : Cls X.K C) (n : eN X.K C f) (hl : fs.length < 1000) (ry : RelV y u)
  (h : ∀ s',Inv X pins σ (upd H a (.ins C dx (putF f y fs))) s'→Q () s') : wpAny (model X.prog X.w) A (setAttr (.ref a) f u) Q E s:=by
 obtain ⟨mA,O,r,wi,_,ho⟩:=lQ I.hok e
 have hz : (fs.map (·.1)).length ≤ sizeLine:=by rw [List.length_map,sizeLine_eq]; omega
 refine aCA I.kIn O c.sa c.po n.taker c.hd wi hz fun h' O' sb=>h _ ?_
 have hd : ∃ o,h'.get? dx = some o:=let ⟨o,_,_,e',_⟩:=O'.ns; ⟨o,e'⟩
 refine I.write (x:=a) (e:=dx) (by rw [e]; exact True.intro) (.inr ho) (fun b q hb z=>(sb.2 b hb).trans z) hd ?_
 refine ⟨by rw [aH O.ne]; exact ho,?_,O.ne,O'.obj,_,O'.ns,fun g=>?_,fun g hg=>?_⟩
 ·have:=dC f y fs; omega
 ·show RelO ((putF f y fs).lookup g) (if g = f then some u else mA g)
  rw [bC]
  by_cases q : g = f
  ·rw [if_pos q,if_pos q]; exact ry
  ·rw [if_neg q,if_neg q]; exact r g
 ·by_cases q : g = f
  ·rw [q]; exact (kN f y fs).1
  ·refine (kN f y fs).2 g (wi g fun z=>hg ?_)
   show (if g = f then some u else mA g) = none
   rw [if_neg q]; exact z
theorem Inv.made (I : Inv X pins σ H s) : Inv X pins σ (upd (upd H s.heap.objs.size (.own (s.heap.objs.size + 1))) (s.heap.objs.size + 1) (.ins C s.heap.objs.size []))
  { s with heap:=(s.heap.push W.emptyDict).push (W.instObj C s.heap.objs.size) }:=by
 have e1 : (s.heap.push W.emptyDict).get? s.heap.objs.size = some W.emptyDict:=Heap.get?_push_size s.heap rfl
 have e2 : ((s.heap.push W.emptyDict).push (W.instObj C s.heap.objs.size)).get? (s.heap.objs.size + 1) = some (W.instObj C s.heap.objs.size):=by
  have:=Heap.get?_push_size (s.heap.push W.emptyDict) (o:=W.instObj C s.heap.objs.size) rfl
  rwa [Heap.size_push] at this
 have e3 : (s.heap.push W.emptyDict).Ns s.heap.objs.size (fun _=>none):=⟨W.emptyDict,#[],_,e1,rfl,(fun e he=>absurd he (by simp)),fun _=>rfl⟩
 have I1:=I.laid (a:=s.heap.objs.size) (o:=.own (s.heap.objs.size + 1)) (h':=s.heap.push W.emptyDict) (t':=s.toks) (fun b u q=>Heap.get?_push_of_some _ q) (Nat.le_refl _) ⟨_,e1⟩
 refine I1.laid (a:=s.heap.objs.size + 1) (o:=.ins C s.heap.objs.size []) (t':=s.toks) (fun b u q=>Heap.get?_push_of_some _ q) (Nat.le_of_eq (Heap.size_push _ _)) ?_
 have ne : s.heap.objs.size ≠ s.heap.objs.size + 1:=Nat.ne_of_lt (Nat.lt_succ_self _)
 refine ⟨by rw [aH ne,aD],Nat.zero_le _,ne,e2,fun _=>none,(Heap.Ns1.of_empty e3).at fun o q=>Heap.get?_push_of_some _ q,fun _=>True.intro,fun y hy=>absurd rfl hy⟩
theorem aCB {prog : Program} {w : World} {env : Env} {e : Expr} {f : Str} {pos : Pos} {s : Shared} {Q : Value→Shared→Prop} (hb : attributeBase e f env (eval e env) = eval e env)
  (h : wpAny (model prog w) A (eval e env) (fun o s₁=>wpAny (model prog w) A (getAttr o f true) Q E s₁) E s) : wpAny (model prog w) A (eval (.Attribute e f pos) env) Q E s :=
 Attribute_any_ h (by rw [arm_eval_Attribute,hb])
end
def tFld (K : W.Frag) (ta : TE) (f : Str) : TE:=fun σ H Q=>ta σ H fun x H1=>∃ a C dx fs v,x = .ref a∧H1 a = some (.ins C dx fs)∧Cls K C∧eN K C f∧fs.lookup f = some v∧Q v H1
def sFld (K : W.Frag) (ta tv : TE) (f : Str) : TS:=fun D σ H=>tv σ H fun y H1=>ta σ H1 fun x H2=>∃ a C dx fs,x = .ref a∧H2 a = some (.ins C dx fs)∧Cls K C∧eN K C f∧fs.length < 1000 ∧
 D.nx σ (upd H2 a (.ins C dx (putF f y fs)))
section
variable {X : Cx} {o e value : Expr} {f : Str} {pos pos' tpos : Pos} {ta tv : TE}
theorem dN (he : PE X e ta) (hb : attributeBase e f X.env (eval e X.env) = eval e X.env) : PE X (.Attribute e f pos) (tFld X.K ta f):=by
 intro pins s σ H Q I h
 refine aCB hb (thn (he pins s σ H _ I h) fun u s1 ⟨x,H1,I1,rx,a,C,dx,fs,v,ex,ea,c,n,l,q⟩=>?_)
 subst ex
 obtain rfl : u = Value.ref a:=rx
 exact xL I1 ea c n l fun u' s2 I2 ru=>⟨v,H1,I2,ru,q⟩
theorem oA (ha : PE X o ta) (hv : PE X value tv) (hs : swapsWith value (some (.Attribute o f pos')) pos.line X.env = pure false) : PS X (.Assign [.Attribute o f pos'] value pos) (sFld X.K ta tv f):=by
 intro pins s σ H D I h
 refine plainObj_wpAny_Assign_Attribute (thn (hv pins s σ H _ I h) fun u s1 ⟨y,H1,I1,ry,q⟩=>thn (ha pins s1 σ H1 _ I1 q) fun ov s2 ⟨x,H2,I2,rx,a,C,dx,fs,ex,ea,c,n,l,q2⟩=>?_) hs
 subst ex
 obtain rfl : ov = Value.ref a:=rx
 exact xM I2 ea c n l ry fun s3 I3=>⟨σ,_,I3,q2⟩
end
section
variable {X : Cx} {pins : List (Addr × Obj)} {σ : St} {H : Hp} {s : Shared} {A : Around} {E : Value→Shared→Prop} {Q : Value→Shared→Prop} {c : Value} {b : Bool}
inductive TyOf (K : W.Frag) (H : Hp) : V→Value→Prop where
 | non : TyOf K H .non (.type "NoneType")
 | bl (x : Bool) : TyOf K H (.bl x) (.type "bool")
 | int (i : Int) : TyOf K H (.int i) (.type "int")
 | str (x : Str) : TyOf K H (.str x) (.type "str")
 | flt (x : UInt64) : TyOf K H (.flt x) (.type "float")
 | lst {a : Addr} {xs : List V} (e : H a = some (.lst xs)) : TyOf K H (.ref a) (.type "list")
 | frz {a : Addr} {o : Obj} {xs : List V} (e : H a = some (.frz o (.lst xs))) : TyOf K H (.ref a) (.type "list")
 | tup {a : Addr} {xs : List V} (e : H a = some (.tup xs)) : TyOf K H (.ref a) (.type "tuple")
 | dK {a : Addr} {kvs : List (Key × V)} (e : H a = some (.dK kvs)) : TyOf K H (.ref a) (.type "dict")
 | dT {a : Addr} {kvs : List (List Key × V)} (e : H a = some (.dT kvs)) : TyOf K H (.ref a) (.type "dict")
 | ins {a C dx : Addr} {fs : List (Str × V)} (e : H a = some (.ins C dx fs)) (cl : Cls K C) (ha : W.findIn K (.ref C) "__class__" = some (some (.builtin "object.__class__")))
   (hn : W.specialIn K (.builtin "object.__class__") "__get__" = some (some (.builtin "getset_descriptor.__get__"))) (htk : W.takesIn K (.builtin "object.__class__") = some true)
   (hm : W.mroIn K C (.type "object") = some true) : TyOf K H (.ref a) (.ref C)
theorem qS {x : V} {u t : Value} (I : Inv X pins σ H s) (rx : RelV x u) (ty : TyOf X.K H x t) (e : W.kitOne X.K t c = some b) (h : ∀ tk,Q (.bool b) { s with toks:=tk }) :
  wpAny (model X.prog X.w) A (call (.builtin "isinstance") [u,c]) Q E s:=by
 cases ty with
 | non=>cases (show u = Value.none from rx); exact W.kia_one W.kitx_none I.kIn True.intro e (fun z=>nomatch z) h
 | bl y=>cases (show u = Value.bool y from rx); exact W.kia_one W.kitx_bool I.kIn True.intro e (fun z=>nomatch z) h
 | int i=>obtain ⟨t,q⟩:=(show ∃ t,u = Value.int i t from rx); cases q; exact W.kia_one W.kitx_int I.kIn True.intro e (fun z=>nomatch z) h
 | str y=>obtain ⟨t,q⟩:=(show ∃ t,u = Value.str y t from rx); cases q; exact W.kia_one W.kitx_str I.kIn True.intro e (fun z=>nomatch z) h
 | flt y=>obtain ⟨t,q⟩:=(show ∃ t,u = Value.float y t from rx); cases q; exact W.kia_one W.kitx_float I.kIn True.intro e (fun z=>nomatch z) h
 | @lst a xs ea =>
  cases (show u = Value.ref a from rx)
  obtain ⟨_,_,n,_,h1⟩:=(show bN X.prog X.w H s.heap a (.lst xs) from I.hok a _ ea)
  exact W.kia_one W.kitx_list I.kIn ⟨_,h1,rfl⟩ e (fun z=>nomatch z) h
 | @frz a ob xs ea =>
  cases (show u = Value.ref a from rx)
  obtain ⟨_,_,_,n,_,h1⟩:=(show bN X.prog X.w H s.heap a (.frz ob (.lst xs)) from I.hok a _ ea)
  exact W.kia_one W.kitx_list I.kIn ⟨_,h1,rfl⟩ e (fun z=>nomatch z) h
 | @tup a xs ea =>
  cases (show u = Value.ref a from rx)
  obtain ⟨_,_,_,p⟩:=(show bN X.prog X.w H s.heap a (.tup xs) from I.hok a _ ea)
  obtain ⟨o,h1,h2,_⟩:=p
  exact W.kia_one W.kitx_tuple I.kIn ⟨o,h1,h2⟩ e (fun z=>nomatch z) h
 | @dK a kvs ea =>
  cases (show u = Value.ref a from rx)
  obtain ⟨_,_,vs,_,p⟩:=(show bN X.prog X.w H s.heap a (.dK kvs) from I.hok a _ ea)
  obtain ⟨o,es,ep,h1,h2,_⟩:=p
  exact W.kia_one W.kitx_dict I.kIn ⟨o,h1,h2.1⟩ e (fun z=>nomatch z) h
 | @dT a kvs ea =>
  cases (show u = Value.ref a from rx)
  obtain ⟨_,_,xs,_,o,es,ep,h1,h2,_⟩:=(show bN X.prog X.w H s.heap a (.dT kvs) from I.hok a _ ea)
  exact W.kia_one W.kitx_dict I.kIn ⟨o,h1,h2.1⟩ e (fun z=>nomatch z) h
 | @ins a C dx fs ea cl ha hn htk hm =>
  cases (show u = Value.ref a from rx)
  obtain ⟨mA,O,_⟩:=lQ I.hok ea
  obtain ⟨od,J,_⟩:=O.look
  exact W.kia_one (W.kitx_own (cl.get _) cl.hd ha hn htk hm) I.kIn J e (fun z=>nomatch z) h
end
end L2
namespace L2
open PySem PySem.Spec PyProof.Rows
structure Room (k : Nat) (A : Around) : Prop where
 hd : A.handled = none
 dp : A.depth + 3 * k + 5 < recursionLimit
 un : A.units + 16 * k + 200 < cLine
 gd : A.guards = some []
theorem Room.mono {j k : Nat} {A : Around} (r : Room k A) (h : j ≤ k) : Room j A:=⟨r.hd,by have:=r.dp; omega,by have:=r.un; omega,r.gd⟩
theorem Room.deeper {k : Nat} {A : Around} (r : Room (k + 1) A) (env : Env) : Room k (A.deeper env) :=
 ⟨r.hd,by have:=r.dp; show A.depth + 1 + 3 * k + 5 < _; omega,by have:=r.un; show A.units + 3 + 16 * k + 200 < _; omega,r.gd⟩
theorem xN {A : Around} {C : Addr} {us : List Value} {kw : List (Str × Value)} : (A.under (.builtin "type.__call__" ⟨.ref C :: us,kw⟩)).depth = A.depth + 1:=by
 first | rfl | simp [Around.under,Code.weight,Code.isCreation,Code.isGuard,Code.isCaller,Code.frames,Code.isFrame,guardIds]
theorem xO {A : Around} {C : Addr} {us : List Value} {kw : List (Str × Value)} : (A.under (.builtin "type.__call__" ⟨.ref C :: us,kw⟩)).units = A.units + 1:=by
 first | rfl | simp [Around.under,Code.cUnits,Code.frames,Code.isFrame]
theorem Room.make {k : Nat} {A : Around} (r : Room (k + 1) A) (C : Addr) (us : List Value) (kw : List (Str × Value)) : Room k (A.under (.builtin "type.__call__" ⟨.ref C :: us,kw⟩)) :=
 ⟨r.hd,by have:=r.dp; rw [xN]; omega,by have:=r.un; rw [xO]; omega,r.gd⟩
theorem Room.depth {k : Nat} {A : Around} (r : Room k A) : A.depth < recursionLimit:=by have:=r.dp; omega
def tNil : TA:=fun _ H Q=>Q [] H
def aY (ta : TE) (tr : TA) : TA:=fun σ H Q=>ta σ H fun x H1=>tr σ H1 fun xs H2=>Q (x :: xs) H2
section
variable {X : Cx} {e : Expr} {es : List Expr} {te : TE} {t : TA} {pos : Pos}
theorem aB : PA X [] tNil:=fun _ _ _ _ H Q I h=>Calls.spliced_nil ⟨[],H,I,.nil,h⟩
theorem aA (ha : PE X e te) (hr : PA X es t) (hs : starEach (e :: es) X.env = (false,eval e X.env) :: starEach es X.env:=by rfl) : PA X (e :: es) (aY te t):=by
 intro pos pins s σ H Q I h
 rw [hs]
 show wpAny _ _ (spliced ((false,eval e X.env) :: backTo pos (starEach es X.env))) _ _ s
 refine Calls.spliced_cons (thn (ha pins s σ H _ I h) fun u s1 ⟨x,H1,I1,r1,q1⟩=>?_)
 exact thn (hr pos pins s1 σ H1 _ I1 q1) fun us s2 ⟨xs,H2,I2,r2,q2⟩=>⟨x :: xs,H2,I2,.cons r1 r2,q2⟩
def tTup (t : TA) : TE:=fun σ H Q=>t σ H fun xs H1=>xs.length ≤ sizeLine∧∀ p,H1 p = none→Q (.ref p) (upd H1 p (.tup xs))
def tLst (t : TA) : TE:=fun σ H Q=>t σ H fun xs H1=>xs.length ≤ sizeLine∧∀ p,H1 p = none→Q (.ref p) (upd H1 p (.lst xs))
theorem cW {x1} (h : PA X es t) : PE X (.Tuple es x1 pos) (tTup t):=by
 intro pins s σ H Q I hq
 refine wpAny_Tuple_spliced (thn (h pos pins s σ H _ I hq) fun us s1 ⟨xs,H1,I1,r,z,q⟩=>⟨by rw [← r.length]; exact z,?_⟩)
 have hf : H1 s1.heap.objs.size = none:=I1.hok.fresh (Nat.le_refl _)
 refine ⟨.ref s1.heap.objs.size,upd H1 s1.heap.objs.size (.tup xs),I1.laid (t':=s1.toks) (fun b u e=>Heap.get?_push_of_some _ e) (Nat.le_refl _) ?_,rfl,q _ hf⟩
 exact ⟨z,us,r,⟨_,Heap.get?_push_size _ rfl,rfl,_,rfl⟩⟩
theorem cT (h : PA X es t) : PE X (.List es pos) (tLst t):=by
 intro pins s σ H Q I hq
 refine wpAny_List_spliced (thn (h pos pins s σ H _ I hq) fun us s1 ⟨xs,H1,I1,r,z,q⟩=>⟨by rw [← r.length]; exact z,?_⟩)
 have hf : H1 s1.heap.objs.size = none:=I1.hok.fresh (Nat.le_refl _)
 refine ⟨.ref s1.heap.objs.size,upd H1 s1.heap.objs.size (.lst xs),I1.laid (t':=s1.toks) (fun b u e=>Heap.get?_push_of_some _ e) (Nat.le_refl _) ?_,rfl,q _ hf⟩
 exact ⟨z,us,0,r,Heap.get?_push_size _ rfl⟩
end
abbrev Sp:=List V→Hp→VK→XK→Prop
abbrev CXT:=List Env→Hp→Shared→XK→Value→Shared→Prop
structure Env0 (P : Program) (w : World) (K : W.Frag) (mg : Str→Option Value) (base : Heap) (A : Around) (outer : List Env) (s : Shared) (H : Hp) : Prop where
 frames : A.frames = some outer
 mod : Mod K mg base
 bs : ∀ b o,base.get? b = some o→s.heap.get? b = some o∧H b = none
 bsz : base.objs.size ≤ s.heap.objs.size
 funs : s.heap.FunFrames base outer
 frf : ∀ b∈frs outer,H b = none
 hok : HOk P w H s.heap
 bare : AllBare s.gens
def CE (outer : List Env) (P : Program) (w : World) (H : Hp) (s : Shared) (Q : VK) (u : Value) (s' : Shared) : Prop :=
 ∃ v H',s'.os = s.os∧AllBare s'.gens∧Un (frs outer) [] H H' s.heap s'.heap∧HOk P w H' s'.heap∧RelV v u∧Q v H'
def CR (CX : CXT) (outer : List Env) (P : Program) (w : World) (H : Hp) (s : Shared) (Q : VK) (E : XK) (r : Result) (s' : Shared) : Prop :=
 match r with
 | .ok (.ret u)=>CE outer P w H s Q u s'
 | .ok _=>False
 | .error e=>CX outer H s E e s'
structure FnOk (P : Program) (w : World) (K : W.Frag) (mg : Str→Option Value) (base : Heap) (CX : CXT) (k : Nat) (f : Addr) (fd : FuncData) (ps : List Str) (sp : Sp) : Prop where
 len : ∀ vs H Q E,sp vs H Q E→vs.length = ps.length
 run : ∀ (A : Around) (outer : List Env) (s : Shared) (H : Hp) (args : Args) (us : List Value) (vs : List V) (Q : VK) (E : XK),Room k A→Env0 P w K mg base A outer s H→BindsTo s fd args (ps.zip us)→Vals vs us→sp vs H Q E →
  codeAny (model P w) A (.call (.ref f) args) (CR CX outer P w H s Q E) s
theorem Env0.make {P : Program} {w : World} {K : W.Frag} {mg : Str→Option Value} {base : Heap} {A : Around} {outer : List Env} {s : Shared} {H : Hp} (e : Env0 P w K mg base A outer s H) (C : Addr) (us : List Value) (kw : List (Str × Value)) :
  Env0 P w K mg base (A.under (.builtin "type.__call__" ⟨.ref C :: us,kw⟩)) outer s H:=⟨by first | exact e.frames | (simpa [Around.under,Code.envs,Code.isFrame,pushEnvs] using e.frames),e.mod,e.bs,e.bsz,e.funs,e.frf,e.hok,e.bare⟩
section
variable {X : Cx} {pins : List (Addr × Obj)} {σ : St} {H : Hp} {s s' : Shared}
theorem Inv.env0 (I : Inv X pins σ H s) : Env0 X.prog X.w X.K X.mg X.base X.A X.stack s H :=
 ⟨I.ok.frames,I.ok.mod,I.bs,Nat.le_trans I.ok.bsz I.sz,I.stack,I.stkFree,I.hok,I.bare⟩
theorem Inv.after {Q : VK} {u : Value} (I : Inv X pins σ H s) (h : CE X.stack X.prog X.w H s Q u s') : EP X pins σ Q u s':=by
 obtain ⟨v,H',os,bare,un,hok,r,q⟩:=h
 obtain ⟨hh,g,d,t,os'⟩:=s'
 obtain rfl : os' = s.os:=os
 exact ⟨v,H',I.call (h':=hh) (g':=g) (d':=d) (t':=t) (ch:=[]) un hok bare (fun b z=>absurd z (by simp)),r,q⟩
end
def gA (sp : Sp) (dvs : List V) (E : XK) (t : TA) : TE:=fun σ H Q=>t σ H fun vs H1=>sp (vs ++ dvs) H1 Q E
def xP (C : Addr) (m : Str) (sp : Sp) (dvs : List V) (E : XK) (ta : TE) (t : TA) : TE:=fun σ H Q=>ta σ H fun x H1=>∃ a dx fs,x = .ref a∧H1 a = some (.ins C dx fs)∧fs.lookup m = none ∧
 t σ H1 fun vs H2=>sp (x :: (vs ++ dvs)) H2 Q E
def aEw (C : Addr) (sp : Sp) (dvs : List V) (E : XK) (t : TA) : TE:=fun σ H Q=>t σ H fun vs H1=>∀ x dx,H1 x = none→H1 dx = none→dx ≠ x →
 sp (.ref x :: (vs ++ dvs)) (upd (upd H1 dx (.own x)) x (.ins C dx [])) (fun v H2=>v = .non∧Q (.ref x) H2) E
def dE (K : W.Frag) (fd : FuncData) (ps : List Str) (ds : List Value) : Prop :=
 ∀ (s : Shared) (us : List Value),K.In s.heap→(us ++ ds).length = ps.length→BindsTo s fd ⟨us,[]⟩ (ps.zip (us ++ ds))
theorem dE.all {K : W.Frag} {fd : FuncData} {ps : List Str} (h : ∀ us : List Value,us.length = ps.length→bindArgs fd ⟨us,[]⟩ = pure (ps.zip us)) : dE K fd ps []:=fun s us _ hl=>by
 rw [List.append_nil] at hl ⊢
 exact .of_eq (h us hl)
def dO (CX : CXT) (X : Cx) (E : XK) : Prop:=∀ (pins : List (Addr × Obj)) (σ : St) (H : Hp) (s : Shared) (e : Value) (s' : Shared),Inv X pins σ H s→CX X.stack H s E e s'→X.xe e s'
section
variable {X : Cx} {CX : CXT} {k : Nat} {f C : Addr} {fd : FuncData} {ps : List Str} {sp : Sp} {dvs : List V} {ds : List Value} {E : XK} {x m : Str} {p pos apos : Pos} {e o : Expr} {es : List Expr} {ta : TE} {t : TA}
theorem sK {pins : List (Addr × Obj)} {σ : St} {H : Hp} {s : Shared} {Q : VK} {us : List Value} {vs : List V} (F : FnOk X.prog X.w X.K X.mg X.base CX k f fd ps sp) (hr : Room k X.A) (hb : dE X.K fd ps ds) (hd : Vals dvs ds) (hx : dO CX X E)
  (I : Inv X pins σ H s) (r : Vals vs us) (h : sp (vs ++ dvs) H Q E) : wpAny (model X.prog X.w) X.A (call (.ref f) us) (EP X pins σ Q) X.xe s:=by
 have r2 : Vals (vs ++ dvs) (us ++ ds):=r.append hd
 have hl : (us ++ ds).length = ps.length:=by rw [← r2.length]; exact F.len _ _ _ _ h
 refine wpAny_call (codeAny_mono (F.run X.A X.stack s H ⟨us,[]⟩ (us ++ ds) (vs ++ dvs) Q E hr I.env0 (hb s us I.kIn hl) r2 h) fun r s' hq=>?_)
 cases r with
 | error e=>exact hx pins σ H s e s' I hq
 | ok fl =>
  cases fl with
  | ret u=>exact I.after hq
  | next=>exact False.elim hq
  | brk=>exact False.elim hq
  | cont=>exact False.elim hq
theorem aCC (F : FnOk X.prog X.w X.K X.mg X.base CX k f fd ps sp) (hr : Room k X.A) (hg : Gl X x) (hm : X.mg x = some (.ref f)) (hk : W.keepIn X.K (.ref f) = true) (hb : dE X.K fd ps ds) (hd : Vals dvs ds) (hx : dO CX X E)
  (ha : PA X (e :: es) t) (hdb : (x == ("__debug__" : Str)) = false:=by decide) (he : starEach (e :: es) X.env = (false,eval e X.env) :: starEach es X.env:=by rfl) (hpl : (backTo pos (starEach es X.env)).any (·.1) = false:=by rfl) :
  PE X (.Call (.Name x p) (e :: es) [] pos) (gA sp dvs E t):=by
 intro pins s σ H Q I h
 refine wpAny_Call_Name_kw (gY I hg hm ?_ hdb)
 refine W.callWith_K (h₀:=X.base) I.ok.mod.kin hk (thn (ha pos pins s σ H _ I h) fun us s1 ⟨vs,H1,I1,r,q⟩=>⟨I1.kIn,?_⟩) he hpl
 exact sK F hr hb hd hx I1 r q
theorem fN {pl : Sem Bool} (he : PE X o ta) (c : Cls X.K C) (hm : Meth X.K C m f) (F : FnOk X.prog X.w X.K X.mg X.base CX k f fd ps sp) (hr : Room k X.A) (hb : dE X.K fd ps ds) (hd : Vals dvs ds) (hx : dO CX X E) (ha : PA X (e :: es) t)
  (hst : starEach (e :: es) X.env = (false,eval e X.env) :: starEach es X.env:=by rfl) (hpl : (backTo pos (starEach es X.env)).any (·.1) = false:=by rfl)
  (ht : eval (.Call (.Attribute o m apos) (e :: es) [] pos) X.env = (do
   let ov ← eval o X.env
   standAt apos.atName
   let (f,first) ← holding [ov] (getMethod ov m pl)
   callWith pos f first (backTo pos (starEach (e :: es) X.env)) (backToKw pos (keywordEach [] X.env))):=by rfl) :
  PE X (.Call (.Attribute o m apos) (e :: es) [] pos) (xP C m sp dvs E ta t):=by
 intro pins s σ H Q I h
 refine W.methodCall_KW (pl:=pl) (thn (he pins s σ H _ I h) fun u s1 ⟨x,H1,I1,rx,a,dx,fs,ex,ea,l,q⟩=>?_) ht
 subst ex
 obtain rfl : u = Value.ref a:=rx
 refine nZ I1 ea c hm l ?_
 refine W.callWith_K (first:=[.ref a]) (h₀:=X.base) I.ok.mod.kin hm.kp (thn (ha pos pins s1 σ H1 _ I1 q) fun us s2 ⟨vs,H2,I2,r,q2⟩=>⟨I2.kIn,?_⟩) hst hpl
 exact sK (us:=.ref a :: us) (vs:=.ref a :: vs) F hr hb hd hx I2 (.cons rfl r) q2
theorem iA {pl : Sem Bool} (he : PE X o ta) (c : Cls X.K C) (hm : Meth X.K C m f) (F : FnOk X.prog X.w X.K X.mg X.base CX k f fd ps sp) (hr : Room k X.A) (hb : dE X.K fd ps ds) (hd : Vals dvs ds) (hx : dO CX X E)
  (ht : eval (.Call (.Attribute o m apos) [] [] pos) X.env = (do
   let ov ← eval o X.env
   standAt apos.atName
   let (f,first) ← holding [ov] (getMethod ov m pl)
   callWith pos f first (backTo pos (starEach [] X.env)) (backToKw pos (keywordEach [] X.env))):=by rfl) :
  PE X (.Call (.Attribute o m apos) [] [] pos) (xP C m sp dvs E ta tNil):=by
 intro pins s σ H Q I h
 refine W.methodCall_KW (pl:=pl) (thn (he pins s σ H _ I h) fun u s1 ⟨x,H1,I1,rx,a,dx,fs,ex,ea,l,q⟩=>?_) ht
 subst ex
 obtain rfl : u = Value.ref a:=rx
 refine nZ I1 ea c hm l ?_
 exact W.callWith_K0 (first:=[.ref a]) I1.kIn hm.kp (sK (us:=[.ref a]) (vs:=[.ref a]) F hr hb hd hx I1 (.cons rfl .nil) q)
structure Mk (K : W.Frag) (C f : Addr) : Prop where
 makes : W.makesIn K C = true
 init : W.findIn K (.ref C) "__init__" = some (some (.ref f))
 fn : W.isFn K (.ref f) = true
 kp : W.keepIn K (.ref C) = true
theorem aBt {pins : List (Addr × Obj)} {σ : St} {H : Hp} {s : Shared} {Q : VK} {us : List Value} {vs : List V} (M : Mk X.K C f) (F : FnOk X.prog X.w X.K X.mg X.base CX k f fd ps sp) (hr : Room (k + 1) X.A) (hb : dE X.K fd ps ds) (hd : Vals dvs ds)
  (hx : dO CX X E) (I : Inv X pins σ H s) (r : Vals vs us)
  (h : ∀ x dx,H x = none→H dx = none→dx ≠ x→sp (.ref x :: (vs ++ dvs)) (upd (upd H dx (.own x)) x (.ins C dx [])) (fun v H2=>v = .non∧Q (.ref x) H2) E) :
  wpAny (model X.prog X.w) X.A (call (.ref C) us) (EP X pins σ Q) X.xe s:=by
 have hq:=h (s.heap.objs.size + 1) s.heap.objs.size (I.hok.fresh (Nat.le_succ _)) (I.hok.fresh (Nat.le_refl _)) (Nat.ne_of_lt (Nat.lt_succ_self _))
 have I2:=Inv.made (C:=C) I
 have r2 : Vals (V.ref (s.heap.objs.size + 1) :: (vs ++ dvs)) (Value.ref (s.heap.objs.size + 1) :: (us ++ ds)):=.cons rfl (r.append hd)
 have hl : (Value.ref (s.heap.objs.size + 1) :: us ++ ds).length = ps.length:=by
  have e:=r2.length
  rw [F.len _ _ _ _ hq] at e
  exact e.symm
 refine wpAny_call (aBs (f:=f) I.kIn M.makes M.init (beq_iff_eq.mp M.fn) (codeAny_mono (F.run _ X.stack _ _ ⟨Value.ref (s.heap.objs.size + 1) :: us,[]⟩ (Value.ref (s.heap.objs.size + 1) :: (us ++ ds)) _ _ E (hr.make C us [])
  (I2.env0.make C us []) (hb _ (Value.ref (s.heap.objs.size + 1) :: us) I2.kIn hl) r2 hq) fun r s' hq'=>?_))
 cases r with
 | error e=>exact hx pins σ _ _ e s' I2 hq'
 | ok fl =>
  cases fl with
  | ret u =>
   obtain ⟨v,H',I3,rv,ev,q3⟩:=I2.after hq'
   subst ev
   exact ⟨rv,⟨V.ref (s.heap.objs.size + 1),H',I3,rfl,q3⟩⟩
  | next=>exact False.elim hq'
  | brk=>exact False.elim hq'
  | cont=>exact False.elim hq'
theorem aCD (M : Mk X.K C f) (F : FnOk X.prog X.w X.K X.mg X.base CX k f fd ps sp) (hr : Room (k + 1) X.A) (hg : Gl X x) (hm : X.mg x = some (.ref C)) (hb : dE X.K fd ps ds) (hd : Vals dvs ds) (hx : dO CX X E)
  (ha : PA X (e :: es) t) (hdb : (x == ("__debug__" : Str)) = false:=by decide) (he : starEach (e :: es) X.env = (false,eval e X.env) :: starEach es X.env:=by rfl) (hpl : (backTo pos (starEach es X.env)).any (·.1) = false:=by rfl) :
  PE X (.Call (.Name x p) (e :: es) [] pos) (aEw C sp dvs E t):=by
 intro pins s σ H Q I h
 refine wpAny_Call_Name_kw (gY I hg hm ?_ hdb)
 refine W.callWith_K (h₀:=X.base) I.ok.mod.kin M.kp (thn (ha pos pins s σ H _ I h) fun us s1 ⟨vs,H1,I1,r,q⟩=>⟨I1.kIn,?_⟩) he hpl
 exact aBt M F hr hb hd hx I1 r q
end
def PK (X : Cx) (kws : List Keyword) (t : TA) : Prop :=
 ∀ (pos : Pos) (pins : List (Addr × Obj)) (s : Shared) (σ : St) (H : Hp) (Q : List V→Hp→Prop),Inv X pins σ H s→t σ H Q→wpAny (model X.prog X.w) X.A (evalAll ((backToKw pos (keywordEach kws X.env)).map (·.2))) (AP X pins σ Q) X.xe s
section
variable {X : Cx} {CX : CXT} {k : Nat} {f C : Addr} {fd : FuncData} {ps ks : List Str} {sp : Sp} {E : XK} {x m : Str} {p pos apos kpos : Pos} {e o : Expr} {es : List Expr} {kws : List Keyword} {te ta : TE} {t tk : TA} {nm : Option Str}
theorem aDN : PK X [] tNil:=fun _ _ _ _ H Q I h=>wpAny_evalAll_nil ⟨[],H,I,.nil,h⟩
theorem aCE (ha : PE X e te) (hr : PK X kws t) : PK X (⟨nm,e,kpos⟩ :: kws) (aY te t):=by
 intro pos pins s σ H Q I h
 show wpAny _ _ (evalAll ((do let v ← eval e X.env; standAt pos; pure v) :: (backToKw pos (keywordEach kws X.env)).map (·.2))) _ _ s
 refine wpAny_evalAll_cons (wpAny_bind (thn (ha pins s σ H _ I h) fun u s1 ⟨x,H1,I1,r1,q1⟩=>wpAny_bind (wpAny_standAt (wpAny_pure ?_))))
 exact thn (hr pos pins s1 σ H1 _ I1 q1) fun us s2 ⟨xs,H2,I2,r2,q2⟩=>⟨x :: xs,H2,I2,.cons r1 r2,q2⟩
variable {g : List Value→List Value→List Value} {gV : List V→List V→List V}
end
structure aM (N P : List Str) (sc : Scope) : Prop where
 kind : sc.kind = .function
 co : sc.isCoroutine = false
 gen : sc.isGenerator = false
 nd : N.Nodup
 pre : N.take P.length = P
 par : ∀ x∈P,sc.names.lookup x = some .local∨sc.names.lookup x = some .cell
 nofree : ∀ y∈sc.names,y.2 ≠ .free
theorem qT {kindOf : Str→Option NameKind} {x : Str} : ∀ {binds : List (Str × Value)} {m : Str→Option Value},(∀ v,(x,v) ∉ binds)→bindL kindOf binds m x = m x
 | [],_,_=>rfl
 | (n,v) :: r,m,h=>by
  unfold bindL
  rw [qT fun w hw=>h w (List.mem_cons_of_mem _ hw)]
  split
  ·have : x ≠ n:=by rintro rfl; exact h v List.mem_cons_self
   simp [this]
  ·rfl
theorem qU {kindOf : Str→Option NameKind} {x : Str} : ∀ {binds : List (Str × Value)} {m : Str→Option Value},(∀ v,(x,v) ∉ binds)→bindC kindOf binds m x = m x
 | [],_,_=>rfl
 | (n,v) :: r,m,h=>by
  unfold bindC
  rw [qU fun w hw=>h w (List.mem_cons_of_mem _ hw)]
  split
  ·rfl
  ·have : x ≠ n:=by rintro rfl; exact h v List.mem_cons_self
   simp [this]
theorem kO {kindOf : Str→Option NameKind} {x : Str} {v : Value} : ∀ {P : List Str} {vs : List Value} {i : Nat} {m : Str→Option Value},P.Nodup→P[i]? = some x→vs[i]? = some v→kindOf x = some .local →
  bindL kindOf (P.zip vs) m x = some v
 | [],_,_,_,_,h,_,_=>by simp at h
 | _ :: _,[],_,_,_,_,h,_=>by simp at h
 | p :: P,w :: vs,0,m,nd,h1,h2,hk=>by
  simp at h1 h2; subst h1; subst h2
  show bindL kindOf ((p,w) :: P.zip vs) m p = _
  unfold bindL
  rw [qT fun v hv=>(List.nodup_cons.mp nd).1 (List.of_mem_zip hv).1,if_pos hk]
  simp
 | p :: P,w :: vs,i + 1,m,nd,h1,h2,hk=>by
  show bindL kindOf ((p,w) :: P.zip vs) m x = _
  unfold bindL
  exact kO (i:=i) (List.nodup_cons.mp nd).2 (by simpa using h1) (by simpa using h2) hk
theorem kP {kindOf : Str→Option NameKind} {x : Str} {v : Value} : ∀ {P : List Str} {vs : List Value} {i : Nat} {m : Str→Option Value},P.Nodup→P[i]? = some x→vs[i]? = some v→kindOf x ≠ some .local →
  bindC kindOf (P.zip vs) m x = some v
 | [],_,_,_,_,h,_,_=>by simp at h
 | _ :: _,[],_,_,_,_,h,_=>by simp at h
 | p :: P,w :: vs,0,m,nd,h1,h2,hk=>by
  simp at h1 h2; subst h1; subst h2
  show bindC kindOf ((p,w) :: P.zip vs) m p = _
  unfold bindC
  rw [qU fun v hv=>(List.nodup_cons.mp nd).1 (List.of_mem_zip hv).1,if_neg hk]
  simp
 | p :: P,w :: vs,i + 1,m,nd,h1,h2,hk=>by
  show bindC kindOf ((p,w) :: P.zip vs) m x = _
  unfold bindC
  exact kP (i:=i) (List.nodup_cons.mp nd).2 (by simpa using h1) (by simpa using h2) hk
def start (N : List Str) (vs : List V) : St:=vs.map some ++ List.replicate (N.length - vs.length) none
def cxOf (CX : CXT) (P : Program) (w : World) (K : W.Frag) (mg : Str→Option Value) (base : Heap) (N : List Str) (qual : Str) (scope : Scope) (f : Addr) (cd : Value) (A : Around) (outer : List Env) (s : Shared) (H : Hp) (E : XK) : Cx where
 prog:=P
 w:=w
 K:=K
 mg:=mg
 base:=base
 A:=A.deeper (envOfC qual scope s.heap.objs.size f cd)
 N:=N
 s₀:=s
 H₀:=H
 env:=envOfC qual scope s.heap.objs.size f cd
 outer:=outer
 stack:=envOfC qual scope s.heap.objs.size f cd :: outer
 ex:=[]
 calm:=true
 fn:=fun _=>true
 pn:=[]
 xe:=fun e s'=>wpAny (model P w) (A.deeper (envOfC qual scope s.heap.objs.size f cd)) (leaving (envOfC qual scope s.heap.objs.size f cd) e) (fun _ s''=>CX outer H s E e s'') (fun e' s''=>CX outer H s E e' s'') s'
theorem jQ {sc : Scope} {n : Nat} {x : Str} (h : sc.names.lookup x = some .cell) : ∃ c,(cellsFrom n sc.names []).lookup x = some c:=by
 have q:=W.cellsFrom_some sc.names n [] (.inl h)
 exact Option.isSome_iff_exists.mp q
theorem zT {CX : CXT} {P : Program} {w : World} {K : W.Frag} {mg : Str→Option Value} {base : Heap} {N ps : List Str} {qual : Str} {scope : Scope} {f : Addr} {cd : Value} {A : Around} {outer : List Env} {s s1 : Shared} {H : Hp} {E : XK} {us : List Value} {vs : List V}
  (S : aM N ps scope) (hd : A.handled = none) (e0 : Env0 P w K mg base A outer s H) (hl : vs.length = ps.length) (r : Vals vs us)
  (x : InCallC s s.heap.objs.size (bindL (envOfC qual scope s.heap.objs.size f cd).kindOf (ps.zip us) fun _=>none) (cellsFrom (s.heap.objs.size + 1) scope.names []) (bindC (envOfC qual scope s.heap.objs.size f cd).kindOf (ps.zip us) fun _=>none) s1) :
  Inv (cxOf CX P w K mg base N qual scope f cd A outer s H E) [] (start N vs) H s1:=by
 have hpl : ps.length ≤ N.length:=by have:=congrArg List.length S.pre; rw [List.length_take] at this; omega
 obtain ⟨h1,tk,rfl,hk⟩:=x.done
 have noA : ∀ b : Addr,b ∉ (cxOf CX P w K mg base N qual scope f cd A outer s H E).ex:=fun b z=>absurd (show b∈([] : List Addr) from z) (by simp)
 refine ⟨⟨e0.mod,S.kind,rfl,rfl,Nat.le_refl _,fun y z c h1 h2=>?_,fun y hy=>?_,fun y c _ h=>?_,fun _=>hd,Around.frames_deeper e0.frames,.inr ⟨rfl,rfl⟩,fun b z=>absurd z (noA b),e0.bs,e0.bsz,fun b _ _=>noA b,fun b z=>absurd z (noA b),e0.funs,e0.frf⟩,
  rfl,e0.bare,Un.kept hk,⟨_,x.toInCall.ns,fun i y v h1 h2 h3=>?_⟩,fun y c h=>⟨_,x.cell y c h⟩,e0.hok.fresh (Nat.le_refl _),fun y c h=>?_,fun p hp=>absurd (show p∈([] : List (Addr × Obj)) from hp) (by simp),e0.hok.kept hk,?_⟩
 ·exact name_of_addr x.apart (PySem.mem_of_lookup h1) (PySem.mem_of_lookup h2)
 ·have hy : scope.names.lookup y = some .cell∨scope.names.lookup y = some .free:=hy
  rcases hy with hy | hy
  ·exact jQ hy
  ·exact absurd rfl (S.nofree _ (PySem.mem_of_lookup hy))
 ·exact Nat.le_of_lt (x.above y c (PySem.mem_of_lookup h))
 ·have hi : i < vs.length:=by
   unfold start at h2
   by_cases hi : i < vs.length
   ·exact hi
   ·rw [List.getElem?_append_right (by simpa using hi)] at h2
    rw [List.getElem?_replicate] at h2
    split at h2 <;> cases h2
  have ha : vs[i]? = some v:=by
   unfold start at h2
   rw [List.getElem?_append_left (by simpa using hi),List.getElem?_map] at h2
   cases e : vs[i]? with
   | none=>rw [e] at h2; cases h2
   | some a=>rw [e] at h2; cases h2; rfl
  obtain ⟨u,hu,rv⟩:=r.get ha
  have hp : ps[i]? = some y:=by
   rw [← S.pre,List.getElem?_take_of_lt (by omega)]; exact h1
  have ndP : ps.Nodup:=by rw [← S.pre]; exact S.nd.sublist (List.take_sublist _ _)
  refine ⟨u,rv,?_⟩
  rcases S.par y (List.mem_of_getElem? hp) with k | k
  ·exact .inl ⟨k,kO ndP hp hu k⟩
  ·obtain ⟨c,e⟩:=jQ (n:=s.heap.objs.size + 1) k
   refine .inr ⟨.inl k,c,e,?_⟩
   have q:=x.cell y c e
   rw [kP ndP hp hu (by show scope.names.lookup y ≠ _; rw [k]; decide)] at q
   exact q
 ·exact e0.hok.fresh (Nat.le_of_lt (x.above y c (PySem.mem_of_lookup h)))
 ·unfold start
  show _ = N.length
  rw [List.length_append,List.length_map,List.length_replicate]
  omega
theorem xQ {CX : CXT} {P : Program} {w : World} {K : W.Frag} {mg : Str→Option Value} {base : Heap} {k : Nat} {f : Addr} {name qual : Str} {params : Arguments} {body : List Stmt} {scope : Scope} {dV kV doc pm cdv ct oc : Value} {an od : Option Addr}
  {osl : Array (Option Value)} {N ps : List Str} {sp : Sp} (lk : K.lookup f = some ⟨oc,od,.func (W.fnOf name qual params body scope dV kV doc pm an cdv ct),osl⟩) (hcd : W.codeIn K cdv qual = true) (S : aM N ps scope)
  (len : ∀ vs H Q E,sp vs H Q E→vs.length = ps.length)
  (hbody : ∀ (A : Around) (outer : List Env) (s : Shared) (H : Hp) (vs : List V) (Q : VK) (E : XK),Room k (A.deeper (envOfC qual scope s.heap.objs.size f cdv))→sp vs H Q E →
   ∃ t,PSs (cxOf CX P w K mg base N qual scope f cdv A outer s H E) body t∧t { nx:=fun _ H'=>Q .non H',rt:=Q } (start N vs) H) :
  FnOk P w K mg base CX (k + 1) f (W.fnOf name qual params body scope dV kV doc pm an cdv ct) ps sp:=by
 refine ⟨len,fun A outer s H args us vs Q E hr e0 hb r hsp=>?_⟩
 have hl:=len _ _ _ _ hsp
 have KX : K.In s.heap:=e0.mod.kin.keeps fun b o e=>(e0.bs b o e).1
 have lim : s.heap.NoLimit:=e0.mod.nolimit.keeps fun b o e=>(e0.bs b o e).1
 have hkind : ∀ y∈ps.zip us,scope.names.lookup y.1 = some .local∨(scope.names.lookup y.1 = some .cell∧((cellsFrom (s.heap.objs.size + 1) scope.names []).lookup y.1).isSome = true):=fun ⟨n,v⟩ hy=>by
  rcases S.par n (List.of_mem_zip hy).1 with q | q
  ·exact .inl q
  ·exact .inr ⟨q,W.cellsFrom_some _ _ _ (.inl q)⟩
 refine codeAny_call_function hr.depth (KX _ _ lk) rfl S.co S.gen rfl (W.codeRec_of KX hcd) (hb _ _ _ _ ?_)
 refine wpAny_newFunctionEnv_cells S.kind hkind fun env he s1 x=>?_
 subst he
 refine ⟨lim.keeps x.toInCall.keep,codeAny_func ?_⟩
 obtain ⟨t,ht,hq⟩:=hbody A outer s H vs Q E (hr.deeper _) hsp
 have I : Inv (cxOf CX P w K mg base N qual scope f cdv A outer s H E) [] (start N vs) H s1:=zT S hr.hd e0 hl r x
 refine wpAny_mono (ht [] s1 (start N vs) H _ I hq) (fun fl s' hs=>?_) fun e s' hs=>hs
 have fin : ∀ {σ' : St} {H' : Hp} {v : V} {u : Value},Inv (cxOf CX P w K mg base N qual scope f cdv A outer s H E) [] σ' H' s'→RelV v u→Q v H'→CE outer P w H s Q u s' :=
  fun {σ' H' v u} J rv q=>⟨v,H',J.os,J.bare,J.base,J.hok,rv,q⟩
 cases fl with
 | ret u =>
  obtain ⟨v,σ',H',J,rv,q⟩:=hs
  exact fin J rv q
 | next =>
  obtain ⟨σ',H',J,q⟩:=hs
  exact fin (v:=V.non) (u:=Value.none) J rfl q
 | brk =>
  obtain ⟨_,_,_,q⟩:=hs
  exact False.elim q
 | cont =>
  obtain ⟨_,_,_,q⟩:=hs
  exact False.elim q
end L2
namespace L2
open PySem PySem.Spec PyProof.Rows
section
variable {X : Cx} {x : Str} {p pos : Pos} {e : Expr} {es : List Expr} {t : TA} {id T : String} {r : List V→Hp→VK→Prop}
def tCB (r : List V→Hp→VK→Prop) (t : TA) : TE:=fun σ H Q=>t σ H fun vs H1=>r vs H1 Q
theorem aO (hc : cK X (.builtin id) r) (hg : Gl X x) (hm : X.mg x = none) (hv : bootBuiltins x = some (.builtin id)) (ha : PA X (e :: es) t) (hn : x ≠ "__name__" := by decide) (hdb : (x == ("__debug__" : Str)) = false:=by decide)
  (he : starEach (e :: es) X.env = (false,eval e X.env) :: starEach es X.env:=by rfl) (hpl : (backTo pos (starEach es X.env)).any (·.1) = false:=by rfl) : PE X (.Call (.Name x p) (e :: es) [] pos) (tCB r t):=by
 intro pins s σ H Q I h
 refine wpAny_Call_Name_kw (iX I hg hm hv ?_ hn hdb)
 exact PyProof.Rows.callWith_builtin1 (thn (ha pos pins s σ H _ I h) fun us s1 ⟨vs,H1,I1,r1,q1⟩=>hc pins s1 σ H1 vs us Q I1 r1 q1) he hpl
theorem dH (hc : cK X (.type T) r) (hg : Gl X x) (hm : X.mg x = none) (hv : bootBuiltins x = some (.type T)) (ha : PA X (e :: es) t) (hn : x ≠ "__name__" := by decide) (hdb : (x == ("__debug__" : Str)) = false:=by decide)
  (he : starEach (e :: es) X.env = (false,eval e X.env) :: starEach es X.env:=by rfl) (hpl : (backTo pos (starEach es X.env)).any (·.1) = false:=by rfl) : PE X (.Call (.Name x p) (e :: es) [] pos) (tCB r t):=by
 intro pins s σ H Q I h
 refine wpAny_Call_Name_kw (iX I hg hm hv ?_ hn hdb)
 exact PyProof.Rows.callWith_type1 (thn (ha pos pins s σ H _ I h) fun us s1 ⟨vs,H1,I1,r1,q1⟩=>hc pins s1 σ H1 vs us Q I1 r1 q1) he hpl
end
end L2
namespace HT
open PySem PyProof.Rows
section
open PySem.SeqAt
open PySem.AutoSeq1 (wpAny_loadPart')
open PySem.MeetsSeq PySem.MeetsSeq2 PySem.MeetsSeq3
end
section
variable {prog : Program} {w : World} {A : Around} {E : Value→Shared→Prop} {s : Shared}
def sIx (n d : Nat) : Option Int→Nat
 | none=>d
 | some v=>if v < 0 then (v + (n : Int)).toNat else min v.toNat n
theorem sIx_none (n d : Nat) : sIx n d none = d:=rfl
theorem sIx_nat (n d k : Nat) : sIx n d (some (k : Int)) = min k n:=by
 show (if (k : Int) < 0 then ((k : Int) + (n : Int)).toNat else min (k : Int).toNat n) = min k n
 rw [if_neg (by omega),Int.toNat_natCast]
theorem aDO (n d : Nat) (hd : d ≤ n) (o : Option Int) : sIx n d o ≤ n:=by
 cases o with
 | none=>exact hd
 | some v =>
  show (if v < 0 then (v + (n : Int)).toNat else min v.toNat n) ≤ n
  by_cases hv : v < 0
  ·rw [if_pos hv]; omega
  ·rw [if_neg hv]; exact Nat.min_le_right _ _
theorem vS (v : Int) (n d : Nat) : (if v < 0 then max (v + (n : Int)) 0 else min v (n : Int)) = ((sIx n d (some v) : Nat) : Int):=by
 show (if v < 0 then max (v + (n : Int)) 0 else min v (n : Int)) = (((if v < 0 then (v + (n : Int)).toNat else min v.toNat n) : Nat) : Int)
 by_cases hv : v < 0
 ·simp only [if_pos hv]; omega
 ·simp only [if_neg hv]; omega
theorem xR (lo hi : Option Int) (n : Nat) : Builtin.Slice.sliceAdjust lo hi 1 (n : Int) = (((sIx n 0 lo : Nat) : Int),((sIx n n hi : Nat) : Int)):=by
 have h1 : ¬ ((1 : Int) < 0):=by omega
 unfold Builtin.Slice.sliceAdjust
 simp only [h1,if_false]
 refine Prod.ext ?_ ?_
 ·cases lo with
  | none=>rfl
  | some v=>exact vS v n 0
 ·cases hi with
  | none=>rfl
  | some v=>exact vS v n n
theorem xS (i j : Nat) : Builtin.Slice.slicePlaces (i : Int) (j : Int) 1 = j - i:=by
 unfold Builtin.Slice.slicePlaces
 have h1 : (1 : Int) > 0:=by omega
 simp only [h1,if_true,Int.ediv_one]
 split <;> omega
theorem oB {v : Value} {o : Option Int} {Q : Option Int→Shared→Prop} (p : IsPart v o) (h : Q o s) : wpAny (model prog w) A (Builtin.Slice.slicePartIndex v) Q E s:=by
 cases p with
 | none=>exact slicePart_none h
 | int i t=>exact slicePart_int h
theorem sliceApplied_gen {sl : Addr} {vl vu : Value} {lo hi : Option Int} {n : Nat} {Q : Int × Int × Nat→Shared→Prop} (hs : s.heap.IsSliceOf sl vl vu .none) (pl : IsPart vl lo) (pu : IsPart vu hi)
  (h : Q (((sIx n 0 lo : Nat) : Int),1,sIx n n hi - sIx n 0 lo) s) : wpAny (model prog w) A (Builtin.Slice.sliceApplied (.ref sl) (pure (n : Int))) Q E s:=by
 obtain ⟨os,hos,hcs,hds⟩:=id hs
 unfold Builtin.Slice.sliceApplied Builtin.Slice.sliceFields
 refine wpAny_bind (wpAny_bind (wpAny_field hos hds (x:=vl) rfl (wpAny_bind (wpAny_field hos hds (x:=vu) rfl (wpAny_bind (wpAny_field hos hds (x:=.none) rfl (wpAny_pure ?_)))))))
 refine wpAny_bind (slicePart_none ?_)
 show wpAny _ _ (if ((1 : Int) == 0) = true then _ else _) _ _ s
 rw [if_neg (by decide)]
 refine wpAny_bind (oB pl (wpAny_bind (oB pu (wpAny_bind (wpAny_pure ?_)))))
 show wpAny _ _ (match Builtin.Slice.sliceAdjust lo hi 1 (n : Int) with | (lo,hi)=>pure (lo,(1 : Int),Builtin.Slice.slicePlaces lo hi 1)) _ _ s
 rw [xR lo hi n]
 show wpAny _ _ (pure (((sIx n 0 lo : Nat) : Int),(1 : Int),Builtin.Slice.slicePlaces ((sIx n 0 lo : Nat) : Int) ((sIx n n hi : Nat) : Int) 1)) _ _ s
 rw [xS]
 exact wpAny_pure h
theorem aBu (xs : Array Value) (i k : Nat) : ((List.range k).filterMap fun (m : Nat)=>xs[((i : Int) + (m : Int) * 1).toNat]?).toArray = ((xs.toList.drop i).take k).toArray:=by
 have e : (fun (m : Nat)=>xs[((i : Int) + (m : Int) * 1).toNat]?) = fun m=>xs[i + m]?:=by
  funext m
  have : ((i : Int) + (m : Int) * 1).toNat = i + m:=by omega
  rw [this]
 rw [e]
 have:=pick_run xs i k
 rw [List.filterMap_map] at this
 have e2 : ((fun x=>xs[x]?) ∘ fun x=>i + x) = fun m=>xs[i + m]?:=rfl
 rw [e2] at this
 rw [this]
theorem getItem_tuple_cut {t sl : Addr} {items : Array Value} {vl vu : Value} {lo hi : Option Int} {Q : Value→Shared→Prop} (ht : IsTup s.heap t items) (hs : s.heap.IsSliceOf sl vl vu .none) (pl : IsPart vl lo) (pu : IsPart vu hi)
  (hw : ¬ (sIx items.size 0 lo = 0∧sIx items.size items.size hi = items.size))
  (h : Q (.ref s.heap.objs.size) { s with heap:=s.heap.push { cls:=.type "tuple",data:=.seq ((items.toList.drop (sIx items.size 0 lo)).take (sIx items.size items.size hi - sIx items.size 0 lo)).toArray } })
  (hsz : items.size ≤ sizeLine) : wpAny (model prog w) A (getItem (.ref t) (.ref sl)) Q E s:=by
 have htake : sizeOk (.seq ((items.toList.drop (sIx items.size 0 lo)).take (sIx items.size items.size hi - sIx items.size 0 lo)).toArray):=by
  show ((items.toList.drop (sIx items.size 0 lo)).take (sIx items.size items.size hi - sIx items.size 0 lo)).toArray.size ≤ sizeLine
  rw [List.size_toArray,List.length_take,List.length_drop,Array.length_toList]
  omega
 have hj : sIx items.size items.size hi ≤ items.size:=aDO _ _ (Nat.le_refl _) hi
 obtain ⟨os,hos,hcs,hds⟩:=id hs
 have hTs : s.TypeIs (.ref sl) "slice" := ⟨os,hos,hcs⟩
 unfold getItem
 try with_reducible refine wpAny_holding ?_
 first | refine wpAny_bind (wpAny_pure ?_) | skip
 refine wpAny_bind (wpAny_sequenceKey ht.typeIs (by decide) ?_)
 refine wpAny_bind (wpAny_callSpecial?_slot (name:=Str.ofString "__getitem__") ht.typeIs PyProof.Rows.slot_tuple_getitem
  (wpAny_call_entry PyProof.Rows.slot_tuple_getitem ht.typeIs entry_tuple_getitem ?_ (args_tuple_getitem _ _)))
 show wpAny _ _ (Builtin.Tuple.tupleItemsOf (.ref t) >>= _) _ _ s
 refine wpAny_bind (tupleItemsOf_ ht ?_)
 refine wpAny_bind (wpAny_typeOf hTs ?_)
 rw [if_pos (by decide)]
 refine wpAny_bind (sliceApplied_gen hs pl pu ?_)
 have hno : ¬ ((((sIx items.size 0 lo : Nat) : Int) == 0 && (1 : Int) == 1 && (sIx items.size items.size hi - sIx items.size 0 lo) == items.size) = true):=by
  intro q
  rw [Bool.and_eq_true,Bool.and_eq_true] at q
  have q1 : ((sIx items.size 0 lo : Nat) : Int) = 0:=eq_of_beq q.1.1
  have q2 : sIx items.size items.size hi - sIx items.size 0 lo = items.size:=eq_of_beq q.2
  exact hw ⟨by omega,by omega⟩
 show wpAny _ _ (if (((sIx items.size 0 lo : Nat) : Int) == 0 && (1 : Int) == 1 && (sIx items.size items.size hi - sIx items.size 0 lo) == items.size) = true then _ else _) _ _ s
 rw [if_neg hno,aBu]
 first
  | exact wpAny_bind (m:=Builtin.Tuple.tupleExact _) (wpAny_newObj_type (wpAny_pure ⟨_,rfl,wpAny_pure h⟩) htake)
  | exact wpAny_bind (m:=Builtin.Tuple.tupleExact _) (wpAny_newObj_type (wpAny_bind (wpAny_pure (wpAny_pure ⟨_,rfl,wpAny_pure h⟩))) htake)
  | exact wpAny_bind (wpAny_bind (m:=Builtin.Tuple.tupleExact _) (wpAny_newObj_type (wpAny_pure (wpAny_pure ⟨_,rfl,wpAny_pure h⟩)) htake))
  | exact wpAny_bind (wpAny_bind (m:=Builtin.Tuple.tupleExact _) (wpAny_newObj_type (wpAny_pure ⟨_,rfl,wpAny_pure h⟩) htake))
end
end HT
namespace L2
open PySem PySem.Spec PyProof.Rows
abbrev TO:=St→Hp→(Option Int→Hp→Prop)→Prop
def PO (X : Cx) (e : Option Expr) (t : TO) : Prop :=
 ∀ (pins : List (Addr × Obj)) (s : Shared) (σ : St) (H : Hp) (Q : Option Int→Hp→Prop),Inv X pins σ H s→t σ H Q →
  wpAny (model X.prog X.w) X.A (evalPart e X.env) (fun u s'=>∃ o H',Inv X pins σ H' s'∧IsPart u o∧Q o H') X.xe s
def aCF : TO:=fun _ H Q=>Q none H
def aEx (t : TE) : TO:=fun σ H Q=>t σ H fun x H1=>∃ i,x = .int i∧Q (some i) H1
theorem oC {ns : List Int} : ∀ {us : List Value},Vals (ns.map V.int) us→IntsAre us ns:=by
 induction ns with
 | nil=>intro us r; rw [List.map_nil] at r; cases r; exact .nil
 | cons n ns ih =>
  intro us r
  rw [List.map_cons] at r
  cases r with
  | cons r1 r2 =>
   obtain ⟨t,e⟩:=r1
   subst e
   exact .cons n t (ih r2)
section
variable {X : Cx} {e : Expr} {te : TE} {lo hi : Option Expr} {tl th : TO} {pos p2 : Pos}
theorem eW : PO X none aCF:=by
 intro pins s σ H Q I h
 rw [evalPart_none]
 exact wpAny_pure ⟨none,H,I,.none,h⟩
theorem eX (h : PE X e te) : PO X (some e) (aEx te):=by
 intro pins s σ H Q I hw
 rw [evalPart_some]
 refine thn (h pins s σ H _ I hw) fun u s1 ⟨x,H1,I1,r1,q1⟩=>?_
 obtain ⟨i,rfl,q⟩:=q1
 obtain ⟨t,rfl⟩:=r1
 exact ⟨some i,H1,I1,.int i t,q⟩
def SlR (X : Cx) (r : V→Option Int→Option Int→Hp→VK→Prop) : Prop :=
 ∀ (pins : List (Addr × Obj)) (s : Shared) (σ : St) (H : Hp) (x : V) (v vl vu : Value) (lo hi : Option Int) (sl : Addr) (Q : VK),Inv X pins σ H s→RelV x v→s.heap.IsSliceOf sl vl vu .none→IsPart vl lo→IsPart vu hi→r x lo hi H Q →
  ∃ T id,typeLookup (.type T) "__getitem__" = pure (some (.builtin id))∧s.TypeIs v T∧wpAny (model X.prog X.w) X.A (getItem v (.ref sl)) (EP X pins σ Q) X.xe s
def tSl (r : V→Option Int→Option Int→Hp→VK→Prop) (te : TE) (tl th : TO) : TE:=fun σ H Q=>te σ H fun x H1=>tl σ H1 fun l H2=>th σ H2 fun u H3=>r x l u H3 Q
theorem eC {r : V→Option Int→Option Int→Hp→VK→Prop} (hr : SlR X r) (he : PE X e te) (hl : PO X lo tl) (hu : PO X hi th) : PE X (.Subscript e (.Slice lo hi none p2) pos) (tSl r te tl th):=by
 intro pins s σ H Q I h
 refine Subscript_ (thn (he pins s σ H _ I h) fun v s1 ⟨x,H1,I1,r1,q1⟩=>?_)
 refine wpAny_Slice (thn (hl pins s1 σ H1 _ I1 q1) fun vl s2 ⟨l,H2,I2,pl,q2⟩=>thn (hu pins s2 σ H2 _ I2 q2) fun vu s3 ⟨u,H3,I3,pu,q3⟩=>?_)
 rw [evalPart_none]
 refine wpAny_pure ?_
 have I4 : Inv X pins σ H3 { s3 with heap:=s3.heap.push { cls:=.type "slice",data:=.fields #[vl,vu,.none] } }:=I3.kept (t':=s3.toks) fun b ob q=>Heap.get?_push_of_some _ q
 obtain ⟨T,id,hT,ht,hg⟩:=hr pins { s3 with heap:=s3.heap.push { cls:=.type "slice",data:=.fields #[vl,vu,.none] } } σ H3 x v vl vu l u s3.heap.objs.size Q I4 r1 (Heap.IsSliceOf.new ..) pl pu q3
 show wpAny (model X.prog X.w) X.A (subscriptTail e (.Slice lo hi none p2) v (.ref s3.heap.objs.size)) (EP X pins σ Q) X.xe { s3 with heap:=s3.heap.push { cls:=.type "slice",data:=.fields #[vl,vu,.none] } }
 exact tail_any (ops:=[.ref s3.heap.objs.size,v]) ht hT hg (by with_unfolding_all rfl)
def cutV (xs : List V) (lo hi : Option Int) : List V:=(xs.drop (HT.sIx xs.length 0 lo)).take (HT.sIx xs.length xs.length hi - HT.sIx xs.length 0 lo)
theorem uZ (xs : List V) (lo hi : Option Int) : (cutV xs lo hi).length ≤ xs.length:=by
 unfold cutV
 rw [List.length_take,List.length_drop]
 omega
def rSlT (K : W.Frag) : V→Option Int→Option Int→Hp→VK→Prop:=fun x lo hi H Q=>∃ a xs,x = .ref a∧SqT K H a xs ∧
 ¬ (HT.sIx xs.length 0 lo = 0∧HT.sIx xs.length xs.length hi = xs.length)∧∀ p,H p = none→Q (.ref p) (upd H p (.tup (cutV xs lo hi)))
theorem aDP : SlR X (rSlT X.K):=by
 intro pins s σ H x v vl vu lo hi sl Q I rx hs pl pu h
 obtain ⟨a,xs,rfl,hx,hw,q⟩:=h
 cases rx
 obtain ⟨its,r,ht,hz⟩:=I.tuple hx
 have hlen : its.toArray.size = xs.length:=by rw [List.size_toArray]; exact r.length.symm
 refine ⟨"tuple",_,PyProof.Rows.slot_tuple_getitem.lookup,ht.typeIs,?_⟩
 refine HT.getItem_tuple_cut ht hs pl pu (by rw [hlen]; exact hw) ?_ (by rw [hlen]; exact hz)
 rw [hlen]
 refine ⟨.ref s.heap.objs.size,_,I.laid (t':=s.toks) (o:=.tup (cutV xs lo hi)) (fun b ob q=>Heap.get?_push_of_some _ q) (Nat.le_refl _) ?_,rfl,q _ (I.hok.fresh (Nat.le_refl _))⟩
 exact ⟨Nat.le_trans (uZ xs lo hi) hz,_,(r.drop (HT.sIx xs.length 0 lo)).take (HT.sIx xs.length xs.length hi - HT.sIx xs.length 0 lo),IsTup.new _ _⟩
theorem Vals.nil_iff {xs : List V} {us : List Value} (r : Vals xs us) : us = []↔xs = []:=by
 cases r with
 | nil=>simp
 | cons _ _=>simp
end
end L2
namespace L2
open PySem PySem.Spec PyProof.Rows
def ixN (n : Nat) (i : Int) : Option Nat:=if 0 ≤ i then (if i < n then some i.toNat else none) else if -(n : Int) ≤ i then some (i + n).toNat else none
def atI {α : Type} (xs : List α) (i : Int) : Option α:=(ixN xs.length i).bind fun j=>xs[j]?
theorem pK {n : Nat} {i : Int} {j : Nat} (h : ixN n i = some j) : seqIndex? i n = some j∧j < n∧-(n : Int) ≤ i∧i < n:=by
 unfold ixN at h
 by_cases h0 : 0 ≤ i
 ·rw [if_pos h0] at h
  by_cases h1 : i < n
  ·rw [if_pos h1] at h
   have e : i.toNat = j:=Option.some.inj h
   exact ⟨by rw [seqIndex_of h0 h1,e],by omega,by omega,h1⟩
  ·rw [if_neg h1] at h; cases h
 ·rw [if_neg h0] at h
  by_cases h1 : -(n : Int) ≤ i
  ·rw [if_pos h1] at h
   have e : (i + n).toNat = j:=Option.some.inj h
   exact ⟨by rw [seqIndex_neg (by omega) h1,e],by omega,h1,by omega⟩
  ·rw [if_neg h1] at h; cases h
theorem vT {α : Type} {xs : List α} {i : Int} {v : α} (h : atI xs i = some v) : ∃ j,seqIndex? i xs.length = some j∧xs[j]? = some v∧j < xs.length∧-(xs.length : Int) ≤ i∧i < xs.length:=by
 unfold atI at h
 cases e : ixN xs.length i with
 | none=>rw [e] at h; cases h
 | some j =>
  rw [e] at h
  obtain ⟨h1,h2,h3,h4⟩:=pK e
  exact ⟨j,h1,h,h2,h3,h4⟩
theorem aW {α : Type} {xs : List α} {j : Nat} {v : α} (h : xs[j]? = some v) : atI xs (j : Int) = some v:=by
 have hj : j < xs.length:=(List.getElem?_eq_some_iff.mp h).1
 have e : ixN xs.length (j : Int) = some j:=by
  unfold ixN
  rw [if_pos (by omega),if_pos (by omega)]; simp
 unfold atI; rw [e]; exact h
def aCG (b : Expr) : Prop:=∀ o i,subscripted b false o i = operate [o,i] (getItem o i)
def IxR (X : Cx) (r : R2) : Prop :=
 ∀ (value slice : Expr) (pins : List (Addr × Obj)) (s : Shared) (σ : St) (H : Hp) (x y : V) (v u : Value) (Q : VK),Inv X pins σ H s→RelV x v→RelV y u→r x y H Q →
  subscripted slice false v u = operate [v,u] (getItem v u)→wpAny (model X.prog X.w) X.A (subscriptTail value slice v u) (EP X pins σ Q) X.xe s
def MtR (X : Cx) (id : String) (r : V→List V→Hp→VK→Prop) : Prop :=
 ∀ (pins : List (Addr × Obj)) (s : Shared) (σ : St) (H : Hp) (x : V) (xs : List V) (v : Value) (us : List Value) (Q : VK),Inv X pins σ H s→RelV x v→Vals xs us→r x xs H Q →
  wpAny (model X.prog X.w) X.A (call (.builtin id) (v :: us)) (EP X pins σ Q) X.xe s
section
variable {X : Cx} {a b : Expr} {ta tb : TE} {pos : Pos}
theorem bL {r : R2} (hr : IxR X r) (ha : PE X a ta) (hb : PE X b tb) (hs : aCG b) : PE X (.Subscript a b pos) (tOp r ta tb):=by
 intro pins s σ H Q I h
 exact Subscript_ (binT ha hb I h fun v u s2 x y H2 I2 rx ry q=>hr a b pins s2 σ H2 x y v u Q I2 rx ry q (hs _ _))
def rIxL (K : W.Frag) : R2:=fun x y H Q=>∃ p xs i v,x = .ref p∧y = .int i∧SqL K H p xs∧atI xs i = some v∧Q v H
def rIxT (K : W.Frag) : R2:=fun x y H Q=>∃ p xs i v,x = .ref p∧y = .int i∧SqT K H p xs∧atI xs i = some v∧Q v H
theorem aX : IxR X (rIxL X.K):=by
 intro value slice pins s σ H x y v u Q I rx ry h hs
 obtain ⟨p,xs,i,z,rfl,rfl,hq,he,q⟩:=h
 cases rx
 obtain ⟨t,rfl⟩:=ry
 obtain ⟨its,r,pl,hz⟩:=I.list hq
 obtain ⟨j,h1,h2,h3,h4,h5⟩:=vT he
 obtain ⟨w,ew,rw'⟩:=r.get h2
 have hl:=r.length
 have hn:=nY
 have fin : EP X pins σ Q w s:=⟨z,H,I,rw',q⟩
 by_cases h0 : 0 ≤ i
 ·have hj : i.toNat = j:=by
   rw [seqIndex_of h0 h5] at h1
   exact Option.some.inj h1
  exact item_listR pl.isList h0 (by omega) (by rw [hj]; simpa using ew) fin hs
 ·have hj : (i + (its.toArray.size : Int)).toNat = j:=by
   rw [seqIndex_neg (by omega) h4] at h1
   rw [List.size_toArray,← hl]
   exact Option.some.inj h1
  exact subscriptTail_builtinR (x:=w) pl.isList.typeIs slot_list_getitem.lookup
   (wpAny_getItem_list_neg (Q:=fun r s'=>r = w∧EP X pins σ Q r s') pl.isList (by omega) (by rw [List.size_toArray] <;> omega) (by omega) (by rw [hj]; simpa using ew) ⟨rfl,fin⟩) hs
theorem sO : IxR X (rIxT X.K):=by
 intro value slice pins s σ H x y v u Q I rx ry h hs
 obtain ⟨p,xs,i,z,rfl,rfl,hq,he,q⟩:=h
 cases rx
 obtain ⟨t,rfl⟩:=ry
 obtain ⟨its,r,pl,hz⟩:=I.tuple hq
 obtain ⟨j,h1,h2,h3,h4,h5⟩:=vT he
 obtain ⟨w,ew,rw'⟩:=r.get h2
 have hl:=r.length
 have hn:=nY
 have fin : EP X pins σ Q w s:=⟨z,H,I,rw',q⟩
 exact subscriptTail_builtinR (x:=w) pl.typeIs slot_tuple_getitem.lookup
  (getItem_tuple (j:=j) (Q:=fun r s'=>r = w∧EP X pins σ Q r s') pl (by omega) (by omega) (by rw [List.size_toArray,← hl]; exact h1) (by simpa using ew) ⟨rfl,fin⟩) hs
theorem xT (its : List Value) (n j : Nat) (u : Value) : Obj.mapSeq (·.setIfInBounds j u) { cls:=.type "list",data:=.seq its.toArray n } = { cls:=.type "list",data:=.seq (its.set j u).toArray n }:=by
 simp [Obj.mapSeq]
theorem Inv.lst {pins : List (Addr × Obj)} {σ : St} {H : Hp} {s : Shared} {p : Addr} {xs : List V} (I : Inv X pins σ H s) (h : H p = some (.lst xs)) :
  ∃ (its : List Value) (n : Nat),Vals xs its∧s.heap.get? p = some { cls:=.type "list",data:=.seq its.toArray n }∧xs.length ≤ sizeLine:=by
 obtain ⟨z,its,n,r,e⟩:=I.hok p _ h
 exact ⟨its,n,r,e,z⟩
theorem Inv.lstUpd {pins : List (Addr × Obj)} {σ : St} {H : Hp} {s : Shared} {p : Addr} {xs ys : List V} {its its' : List Value} {n n' : Nat} {f : Obj→Obj} (I : Inv X pins σ H s) (h : H p = some (.lst xs))
  (ho : s.heap.get? p = some { cls:=.type "list",data:=.seq its.toArray n }) (hf : f { cls:=.type "list",data:=.seq its.toArray n } = { cls:=.type "list",data:=.seq its'.toArray n' }) (r : Vals ys its') (hz : ys.length ≤ sizeLine) (t : Nat) :
  Inv X pins σ (upd H p (.lst ys)) { s with heap:=s.heap.update p f,toks:=t }:=by
 have e : (s.heap.update p f).get? p = some { cls:=.type "list",data:=.seq its'.toArray n' }:=by
  rw [Heap.get?_update_self f ho (by rw [hf] <;> rfl),hf]
 refine I.write (x:=p) (e:=p) (by rw [h]; trivial) (.inl rfl) (fun b u hb q=>(Heap.get?_update_other _ _ (Ne.symm hb)).trans q) ⟨_,e⟩ ?_
 exact ⟨hz,its',n',r,e⟩
def aEy : V→V→V→Hp→(Hp→Prop)→Prop:=fun o i v H Q=>∃ p xs k j,o = .ref p∧i = .int k∧H p = some (.lst xs)∧ixN xs.length k = some j∧Q (upd H p (.lst (xs.set j v)))
theorem jR : PSet X aEy:=by
 intro pins s σ H o i v ov iv u Q I ro ri rv h
 obtain ⟨p,xs,k,j,rfl,rfl,hp,hj,q⟩:=h
 cases ro
 obtain ⟨t,rfl⟩:=ri
 obtain ⟨its,n,r,ho,hz⟩:=I.lst hp
 obtain ⟨h1,h2,h3,h4⟩:=pK hj
 have hl:=r.length
 have hn:=nY
 have I' : Inv X pins σ (upd H p (.lst (xs.set j v))) { s with heap:=s.heap.update p (Obj.mapSeq (·.setIfInBounds j u)) } :=
  I.lstUpd hp ho (xT its n j u) (r.set rv j) (by rw [List.length_set]; exact hz) s.toks
 by_cases h0 : 0 ≤ k
 ·have hk : k.toNat = j:=by
   rw [seqIndex_of h0 h4] at h1
   exact Option.some.inj h1
  exact W.ki_setAt ho h0 (by omega) (by rw [List.size_toArray,← hl]; exact h4) (by rw [hk]; exact ⟨_,I',q⟩)
 ·have hk : (k + (its.toArray.size : Int)).toNat = j:=by
   rw [seqIndex_neg (by omega) h3] at h1
   rw [List.size_toArray,← hl]
   exact Option.some.inj h1
  exact W.ki_setBack ho (by omega) (by rw [List.size_toArray,← hl]; exact h3) (by omega) (by rw [hk]; exact ⟨_,I',q⟩)
def dX : V→Bool
 | .non=>true
 | .bl _=>true
 | .int _=>true
 | .str _=>true
 | _=>false
def eqV : V→V→Bool
 | .non,.non=>true
 | .bl a,.bl b=>a == b
 | .bl a,.int b=>(if a then 1 else 0) == b
 | .int a,.bl b=>a == (if b then 1 else 0)
 | .int a,.int b=>a == b
 | .str a,.str b=>a == b
 | _,_=>false
theorem sP {A : Around} {s : Shared} {y x : V} {u v : Value} (ry : RelV y u) (rx : RelV x v) (fy : dX y = true) (fx : dX x = true) : SeqAt.EqAt A s u v (eqV y x):=by
 cases y with
 | non =>
  cases ry
  cases x with
  | non=>cases rx; exact SeqAt.EqAt.same _
  | bl b=>cases rx; exact SeqAt.EqAt.none_bool b
  | int b=>obtain ⟨t,rfl⟩:=rx; exact SeqAt.EqAt.none_int b t
  | str b=>obtain ⟨t,rfl⟩:=rx; exact SeqAt.EqAt.none_str b t
  | _=>exact absurd (show false = true from fx) Bool.false_ne_true
 | bl a =>
  cases ry
  cases x with
  | non=>cases rx; exact SeqAt.EqAt.bool_none a
  | bl b=>cases rx; exact SeqAt.EqAt.bool_bool a b
  | int b=>obtain ⟨t,rfl⟩:=rx; exact SeqAt.EqAt.bool_int a b t
  | str b=>obtain ⟨t,rfl⟩:=rx; exact SeqAt.EqAt.bool_str a b t
  | _=>exact absurd (show false = true from fx) Bool.false_ne_true
 | int a =>
  obtain ⟨t',rfl⟩:=ry
  cases x with
  | non=>cases rx; exact SeqAt.EqAt.int_none a t'
  | bl b=>cases rx; exact SeqAt.EqAt.int_bool a t' b
  | int b=>obtain ⟨t,rfl⟩:=rx; exact SeqAt.EqAt.int_int a t' b t
  | str b=>obtain ⟨t,rfl⟩:=rx; exact SeqAt.EqAt.int_str a t' b t
  | _=>exact absurd (show false = true from fx) Bool.false_ne_true
 | str a =>
  obtain ⟨t',rfl⟩:=ry
  cases x with
  | non=>cases rx; exact SeqAt.EqAt.str_none a t'
  | bl b=>cases rx; exact SeqAt.EqAt.str_bool a t' b
  | int b=>obtain ⟨t,rfl⟩:=rx; exact SeqAt.EqAt.str_int a t' b t
  | str b=>obtain ⟨t,rfl⟩:=rx; exact SeqAt.EqAt.str_str a t' b t
  | _=>exact absurd (show false = true from fx) Bool.false_ne_true
 | _=>exact absurd (show false = true from fy) Bool.false_ne_true
def eqU (x : V) (u : Value) : Bool:=match u with
 | .none=>eqV .non x
 | .bool b=>eqV (.bl b) x
 | .int i _=>eqV (.int i) x
 | .str z _=>eqV (.str z) x
 | _=>false
theorem zU {x y : V} {u : Value} (r : RelV y u) (f : dX y = true) : eqU x u = eqV y x:=by
 cases y with
 | non=>cases r; rfl
 | bl b=>cases r; rfl
 | int i=>obtain ⟨t,rfl⟩:=r; rfl
 | str z=>obtain ⟨t,rfl⟩:=r; rfl
 | _=>exact absurd (show false = true from f) Bool.false_ne_true
theorem jB {x : V} : ∀ {xs : List V} {us : List Value},Vals xs us→xs.all dX = true→us.any (eqU x) = xs.any fun y=>eqV y x
 | _,_,.nil,_=>rfl
 | y :: xs,u :: us,.cons r t,f=>by
  rw [List.all_cons,Bool.and_eq_true] at f
  rw [List.any_cons,List.any_cons,zU r f.1,jB t f.2]
theorem iB {A : Around} {s : Shared} {x : V} {v : Value} (rx : RelV x v) (fx : dX x = true) : ∀ {xs : List V} {us : List Value},Vals xs us→xs.all dX = true→∀ u∈us,SeqAt.EqAt A s u v (eqU x u)
 | _,_,.nil,_=>fun u hu=>by cases hu
 | y :: xs,u :: us,.cons r t,f=>fun u' hu=>by
  rw [List.all_cons,Bool.and_eq_true] at f
  rcases List.mem_cons.mp hu with rfl | hu
  ·rw [zU r f.1]; exact sP r rx f.1 fx
  ·exact iB rx fx t f.2 u' hu
def inV (x : V) (xs : List V) : Bool:=xs.any fun y=>eqV y x
def rIn (K : W.Frag) (neg : Bool) : R2:=fun x y H Q=>∃ p xs,y = .ref p∧(SqL K H p xs∨SqT K H p xs)∧dX x = true∧xs.all dX = true∧Q (.bl (if neg then !inV x xs else inV x xs)) H
theorem zV : OpR X (compareOp .In) (rIn X.K false):=by
 intro pins s σ H x y v u Q I rx ry h
 obtain ⟨p,xs,rfl,hq,fx,fs,q⟩:=h
 cases ry
 rcases hq with hq | hq
 ·obtain ⟨its,r,pl,hz⟩:=I.list hq
  refine SeqAt.in_listAt (eqU x) pl.isList (fun w hw=>iB rx fx r fs w (by simpa using hw)) ⟨.bl _,H,I,rfl,?_⟩
  rw [show its.toArray.any (eqU x) = its.any (eqU x) by simp,jB r fs]
  exact q
 ·obtain ⟨its,r,pl,hz⟩:=I.tuple hq
  refine SeqAt.in_tupleAt (eqU x) pl (fun w hw=>iB rx fx r fs w (by simpa using hw)) ⟨.bl _,H,I,rfl,?_⟩
  rw [show its.toArray.any (eqU x) = its.any (eqU x) by simp,jB r fs]
  exact q
theorem sQ : OpR X (compareOp .NotIn) (rIn X.K true):=by
 intro pins s σ H x y v u Q I rx ry h
 obtain ⟨p,xs,rfl,hq,fx,fs,q⟩:=h
 cases ry
 rcases hq with hq | hq
 ·obtain ⟨its,r,pl,hz⟩:=I.list hq
  refine SeqAt.notIn_listAt (eqU x) pl.isList (fun w hw=>iB rx fx r fs w (by simpa using hw)) ⟨.bl _,H,I,rfl,?_⟩
  rw [show its.toArray.any (eqU x) = its.any (eqU x) by simp,jB r fs]
  exact q
 ·obtain ⟨its,r,pl,hz⟩:=I.tuple hq
  refine SeqAt.notIn_tupleAt (eqU x) pl (fun w hw=>iB rx fx r fs w (by simpa using hw)) ⟨.bl _,H,I,rfl,?_⟩
  rw [show its.toArray.any (eqU x) = its.any (eqU x) by simp,jB r fs]
  exact q
theorem bV : cK X (.builtin "len") (fun xs H Q=>∃ p ys,xs = [.ref p]∧(SqL X.K H p ys∨SqT X.K H p ys)∧Q (.int ys.length) H):=by
 intro pins s σ H xs us Q I r h
 obtain ⟨p,ys,rfl,hq,q⟩:=h
 obtain ⟨u,rfl,rx⟩:=rN r
 cases rx
 have hn:=nY
 rcases hq with hq | hq
 ·obtain ⟨its,r',pl,hz⟩:=I.list hq
  have hlen:=r'.length
  exact Calls.call_len_list pl.isList (by simp only [List.size_toArray] <;> omega) ⟨.int ys.length,H,I.tok _,⟨s.toks + 1,by rw [List.size_toArray,hlen]⟩,q⟩
 ·obtain ⟨its,r',pl,hz⟩:=I.tuple hq
  have hlen:=r'.length
  exact len_tuple pl (by simp only [List.size_toArray] <;> omega) ⟨.int ys.length,H,I.tok _,⟨s.toks + 1,by rw [List.size_toArray,hlen]⟩,q⟩
theorem iC : cK X (.type "list") (fun xs H Q=>∃ p ys,xs = [.ref p]∧(SqL X.K H p ys∨SqT X.K H p ys)∧∀ l,H l = none→Q (.ref l) (upd H l (.lst ys))):=by
 intro pins s σ H xs us Q I r h
 obtain ⟨p,ys,rfl,hq,q⟩:=h
 obtain ⟨u,rfl,rx⟩:=rN r
 cases rx
 have fin : ∀ (its : List Value),Vals ys its→ys.length ≤ sizeLine→∀ (h' : Heap) (c' : Nat),(∀ b o',s.heap.get? b = some o'→h'.get? b = some o') →
   h'.get? s.heap.objs.size = some { cls:=.type "list",dict:=none,data:=.seq its.toArray c',slots:=#[] }→EP X pins σ Q (.ref s.heap.objs.size) { s with heap:=h' }:=fun its r' hz h' c' kp e =>
  ⟨.ref s.heap.objs.size,_,I.laid (t':=s.toks) kp (Nat.le_refl _) (show bN X.prog X.w _ h' _ (.lst ys) from ⟨hz,its,c',r',e⟩),rfl,q _ (I.hok.fresh (Nat.le_refl _))⟩
 rcases hq with hq | hq
 ·obtain ⟨its,r',pl,hz⟩:=I.list hq
  have hlen:=r'.length
  obtain ⟨o,ho,hc,n,hd⟩:=pl.isList
  exact call_list_seq p (.inl rfl) ho hc hd (fun h' c' kp e=>fin its r' hz h' c' kp e) (by simp only [List.size_toArray] <;> omega)
 ·obtain ⟨its,r',pl,hz⟩:=I.tuple hq
  have hlen:=r'.length
  obtain ⟨o,ho,hc,n,hd⟩:=pl
  exact call_list_seq p (.inr rfl) ho hc hd (fun h' c' kp e=>fin its r' hz h' c' kp e) (by simp only [List.size_toArray] <;> omega)
theorem rJ : cK X (.type "tuple") (fun xs H Q=>∃ p ys,xs = [.ref p]∧((SqL X.K H p ys∧∀ l,H l = none→Q (.ref l) (upd H l (.tup ys)))∨(SqT X.K H p ys∧Q (.ref p) H))):=by
 intro pins s σ H xs us Q I r h
 obtain ⟨p,ys,rfl,h⟩:=h
 obtain ⟨u,rfl,rx⟩:=rN r
 cases rx
 rcases h with ⟨hq,q⟩ | ⟨hq,q⟩
 ·obtain ⟨its,r',pl,hz⟩:=I.list hq
  have hlen:=r'.length
  refine call_tuple_list pl.isList (fun h' kp=>?_) (by simp only [List.size_toArray] <;> omega)
  have I1 : Inv X pins σ H { s with heap:=h' }:=I.kept (t':=s.toks) kp
  have I2 : Inv X pins σ (upd H h'.objs.size (.tup ys)) { s with heap:=h'.push { cls:=.type "tuple",data:=.seq its.toArray } } :=
   I1.laid (t':=s.toks) (fun b o e=>Heap.get?_push_of_some _ e) (Nat.le_refl _) (show bN X.prog X.w _ _ _ (.tup ys) from ⟨hz,its,r',IsTup.new _ _⟩)
  exact ⟨.ref h'.objs.size,_,I2,rfl,q _ (I1.hok.fresh (Nat.le_refl _))⟩
 ·obtain ⟨its,r',pl,hz⟩:=I.tuple hq
  exact call_tuple_same pl ⟨.ref p,H,I,rfl,q⟩
def tyV (K : W.Frag) (T : String) (x : V) (H : Hp) : Prop:=match x with
 | .str _=>T = "str"
 | .int _=>T = "int"
 | .ref p=>(T = "list" ∧ ∃ xs,SqL K H p xs)∨(T = "tuple" ∧ ∃ o,K.lookup p = some o∧o.cls = .type "tuple" ∧ o.dict = none) ∨
   (T = "dict" ∧ ((∃ kvs,H p = some (.dK kvs))∨∃ kvs,H p = some (.dT kvs)))∨(T = "set" ∧ ∃ S n,H p = some (.set S n))
 | _=>False
theorem zW {pins : List (Addr × Obj)} {σ : St} {H : Hp} {s : Shared} {T : String} {x : V} {v : Value} (I : Inv X pins σ H s) (r : RelV x v) (ty : tyV X.K T x H) :
  s.TypeIs v T∧∀ a,v = .ref a→∃ ob,s.heap.get? a = some ob∧ob.dict = none:=by
 cases x with
 | str z =>
  obtain ⟨t,rfl⟩:=r
  cases (show T = "str" from ty)
  exact ⟨typeIs_str s z t,fun _ e=>nomatch e⟩
 | int i =>
  obtain ⟨t,rfl⟩:=r
  cases (show T = "int" from ty)
  exact ⟨typeIs_int s i t,fun _ e=>nomatch e⟩
 | ref p =>
  cases r
  rcases ty with ⟨rfl,xs,hq⟩ | ⟨rfl,o,hk,hc,hd⟩ | ⟨rfl,hk⟩ | ⟨rfl,S,n,hk⟩
  ·obtain ⟨its,_,pl,_⟩:=I.list hq
   refine ⟨pl.isList.typeIs,fun a e=>?_⟩
   cases e
   obtain ⟨o,n,e,c,hd,_⟩:=pl
   exact ⟨o,e,hd⟩
  ·refine ⟨⟨o,I.kIn p o hk,hc⟩,fun a e=>?_⟩
   cases e
   exact ⟨o,I.kIn _ o hk,hd⟩
  ·have z : ∃ o,s.heap.get? p = some o∧o.ExactDict:=by
    rcases hk with ⟨kvs,hk⟩ | ⟨kvs,hk⟩
    ·obtain ⟨_,_,_,_,o,_,_,e,ex,_⟩:=I.hok p _ hk
     exact ⟨o,e,ex⟩
    ·obtain ⟨_,_,_,_,o,_,_,e,ex,_⟩:=I.hok p _ hk
     exact ⟨o,e,ex⟩
   obtain ⟨o,e,ex⟩:=z
   refine ⟨⟨o,e,ex.1⟩,fun a e2=>?_⟩
   cases e2
   exact ⟨o,e,ex.2.1⟩
  ·obtain ⟨o,_,_,_,e,ex,_⟩:=I.hok p _ hk
   refine ⟨⟨o,e,ex.1⟩,fun a e2=>?_⟩
   cases e2
   exact ⟨o,e,ex.2.1⟩
 | _=>exact False.elim ty
def tBM0 (K : W.Frag) (T : String) (r : V→List V→Hp→VK→Prop) (to : TE) : TE:=fun σ H Q=>to σ H fun x H1=>tyV K T x H1∧r x [] H1 Q
def tBM (K : W.Frag) (T : String) (r : V→List V→Hp→VK→Prop) (to : TE) (t : TA) : TE:=fun σ H Q=>to σ H fun x H1=>tyV K T x H1∧t σ H1 fun xs H2=>r x xs H2 Q
variable {o e : Expr} {es : List Expr} {to : TE} {t : TA} {name : Str} {apos cpos : Pos} {T id : String} {r : V→List V→Hp→VK→Prop}
theorem aDQ (pa : PlainAttrs T) (slot : Slot T name id) (hty : typeOf (.builtin id) = pure (.type "method_descriptor")) (hm : MtR X id r) (ho : PE X o to)
  (hbase : attributeBase o name X.env (eval o X.env) = eval o X.env:=by rfl) (hline : (apos.endLine == cpos.line) = true:=by rfl) : PE X (.Call (.Attribute o name apos) [] [] cpos) (tBM0 X.K T r to):=by
 intro pins s σ H Q I h
 refine wpAny_Call_method0_late hbase hline (thn (ho pins s σ H _ I h) fun v s1 ⟨x,H1,I1,r1,ty,q1⟩=>?_)
 obtain ⟨h1,h2⟩:=zW I1 r1 ty
 exact ⟨T,id,pa,slot,hty,h1,h2,Calls.callWith_builtin rfl (PySem.evalArgs_none (hm pins s1 σ H1 x [] v [] Q I1 r1 .nil q1))⟩
theorem gB (pa : PlainAttrs T) (slot : Slot T name id) (hty : typeOf (.builtin id) = pure (.type "method_descriptor")) (hm : MtR X id r) (ho : PE X o to) (ha : PA X (e :: es) t)
  (hbase : attributeBase o name X.env (eval o X.env) = eval o X.env:=by rfl)
  (hfew : ((backTo cpos (starEach (e :: es) X.env)).all (fun x=>!x.1) && (backToKw cpos (keywordEach [] X.env)).all (fun x=>x.1.isSome)
   && decide ((e :: es).length + ([] : List Keyword).length + (if ([] : List Keyword).isEmpty then 0 else 1) < 30)) = true:=by rfl)
  (hline : (apos.endLine == cpos.line) = true:=by rfl) (hs : starEach (e :: es) X.env = (false,eval e X.env) :: starEach es X.env:=by rfl) (hplain : (backTo cpos (starEach es X.env)).any (·.1) = false:=by rfl) :
  PE X (.Call (.Attribute o name apos) (e :: es) [] cpos) (tBM X.K T r to t):=by
 intro pins s σ H Q I h
 refine wpAny_Call_method_late hbase hfew hline rfl (thn (ho pins s σ H _ I h) fun v s1 ⟨x,H1,I1,r1,ty,q1⟩=>?_)
 obtain ⟨h1,h2⟩:=zW I1 r1 ty
 refine ⟨T,id,pa,slot,hty,h1,h2,?_⟩
 have hA:=ha cpos pins s1 σ H1 _ I1 q1
 rw [hs] at hA ⊢
 refine Calls.callWith_builtin (by show (false || (backTo cpos (starEach es X.env)).any (·.1)) = false; rw [hplain] <;> rfl) (Calls.evalArgs_plain ?_)
 exact thn hA fun us s2 ⟨vs,H2,I2,r2,q2⟩=>hm pins s2 σ H2 x vs v us Q I2 r1 r2 q2
end
end L2
namespace L2
open PySem PySem.Spec PyProof.Rows
def MtM (X : Cx) (id : String) (r : V→List V→Hp→VK→Prop) : Prop :=
 ∀ (pins : List (Addr × Obj)) (s : Shared) (σ : St) (H : Hp) (x : V) (xs : List V) (v : Value) (us : List Value) (Q : VK),Inv X pins σ H s→RelV x v→Vals xs us→r x xs H Q →
  wpAny (model X.prog X.w) X.A (call (.builtin id) (v :: us)) (EP X pins σ Q) X.xe s
theorem Vals.one : ∀ {x : V} {us : List Value},Vals [x] us→∃ u,us = [u]∧RelV x u
 | _,_,.cons r .nil=>⟨_,rfl,r⟩
theorem Vals.two : ∀ {x y : V} {us : List Value},Vals [x,y] us→∃ u v,us = [u,v]∧RelV x u∧RelV y v
 | _,_,_,.cons r (.cons q .nil)=>⟨_,_,rfl,r,q⟩
theorem Vals.zero : ∀ {us : List Value},Vals [] us→us = []
 | _,.nil=>rfl
theorem Vals.eraseIdx : ∀ {xs : List V} {us : List Value} (i : Nat),Vals xs us→Vals (xs.eraseIdx i) (us.eraseIdx i)
 | _,_,_,.nil=>.nil
 | _,_,0,.cons _ t=>t
 | _,_,i + 1,.cons r t=>.cons r (Vals.eraseIdx i t)
theorem qV {α : Type} : ∀ (l : List α) (i : Nat),(l.eraseIdx i).length ≤ l.length
 | [],_=>Nat.le_refl _
 | _ :: _,0=>Nat.le_succ _
 | _ :: r,i + 1=>Nat.succ_le_succ (qV r i)
section
variable {X : Cx} {pins : List (Addr × Obj)} {σ : St} {H : Hp} {s : Shared} {l b : Addr} {xs ys zs : List V}
theorem Inv.lset {its its' : List Value} {n : Nat} {f : Array Value→Array Value} {t' : Nat} (I : Inv X pins σ H s) (hH : H l = some (.lst xs))
  (e : s.heap.get? l = some { cls:=.type "list",data:=.seq its.toArray n }) (hf : f its.toArray = its'.toArray) (hv : Vals ys its') (hz : ys.length ≤ sizeLine) :
  Inv X pins σ (upd H l (.lst ys)) { s with heap:=s.heap.update l (Obj.mapSeq f),toks:=t' }:=by
 have q:=PySem.IsL.update e f
 rw [hf] at q
 refine I.write (x:=l) (e:=l) (by rw [hH]; exact trivial) (.inl rfl) (fun b' u hb hu=>(Heap.get?_update_other s.heap (Obj.mapSeq f) (Ne.symm hb)).trans hu) ⟨_,q⟩ ?_
 exact ⟨hz,its',_,hv,q⟩
theorem Inv.lnew {its : List Value} {t' : Nat} (I : Inv X pins σ H s) (hv : Vals ys its) (hz : ys.length ≤ sizeLine) :
  Inv X pins σ (upd H s.heap.objs.size (.lst ys)) { s with heap:=s.heap.push { cls:=.type "list",data:=.seq its.toArray },toks:=t' } :=
 I.laid (fun _ _ q=>Heap.get?_push_of_some _ q) (Nat.le_refl _) ⟨hz,its,0,hv,Heap.get?_push_size _ rfl⟩
theorem Inv.fresh (I : Inv X pins σ H s) : H s.heap.objs.size = none:=I.hok.fresh (Nat.le_refl _)
theorem Inv.lstM (I : Inv X pins σ H s) (hH : H l = some (.lst xs)) : xs.length ≤ sizeLine∧∃ (its : List Value) (n : Nat),Vals xs its∧xs.length = its.length∧s.heap.get? l = some { cls:=.type "list",data:=.seq its.toArray n }:=by
 obtain ⟨z,its,n,r,e⟩:=I.hok l _ hH
 exact ⟨z,its,n,r,r.length,e⟩
theorem aBv {n : Nat} (h : n ≤ sizeLine) : Builtin.List.listTooLong n = false:=by
 unfold Builtin.List.listTooLong
 exact decide_eq_false (by omega)
end
section
variable {X : Cx}
def aCH : V→List V→Hp→VK→Prop:=fun x vs H Q=>∃ l xs y,x = .ref l∧vs = [y]∧H l = some (.lst xs)∧xs.length < sizeLine∧Q .non (upd H l (.lst (xs ++ [y])))
theorem dA : MtM X "list.append" aCH:=by
 intro pins s σ H x vs v us Q I rx rv h
 obtain ⟨l,xs,y,rfl,rfl,hH,hz,q⟩:=h
 cases rx
 obtain ⟨u,rfl,ru⟩:=rv.one
 obtain ⟨z,its,n,r,hl,e⟩:=I.lstM hH
 refine call_meets F.slot_list_append ⟨_,e,rfl⟩ F.entry_list_append (F.args_list_append_2 _ _) (PySem.list_append l its.toArray n u (by rw [List.size_toArray]; omega)) ⟨e,?_⟩
 refine ⟨.non,_,I.lset (its':=its ++ [u]) hH e (by simp) (r.append (.cons ru .nil)) ?_,rfl,q⟩
 rw [List.length_append,List.length_singleton]
 omega
def aCI : V→List V→Hp→VK→Prop:=fun x vs H Q=>∃ l b xs zs,x = .ref l∧vs = [.ref b]∧H l = some (.lst xs)∧H b = some (.lst zs)∧xs.length + zs.length ≤ sizeLine∧Q .non (upd H l (.lst (xs ++ zs)))
theorem zX : MtM X "list.extend" aCI:=by
 intro pins s σ H x vs v us Q I rx rv h
 obtain ⟨l,b,xs,zs,rfl,rfl,hH,hB,hz,q⟩:=h
 cases rx
 obtain ⟨u,rfl,ru⟩:=rv.one
 cases ru
 obtain ⟨z,its,n,r,hl,e⟩:=I.lstM hH
 obtain ⟨z2,its2,n2,r2,hl2,e2⟩:=I.lstM hB
 have hsz : its.toArray.size + its2.toArray.size ≤ sizeLine:=by rw [List.size_toArray,List.size_toArray]; omega
 have hlong : ¬ (!its.toArray.isEmpty && Builtin.List.listTooLong (its.toArray.size + its2.toArray.size)) = true:=by
  rw [aBv hsz,Bool.and_false]
  exact Bool.false_ne_true
 refine call_meets F.slot_list_extend ⟨_,e,rfl⟩ F.entry_list_extend (F.args_list_extend_2 _ _)
  (AutoSeq1.list_extend_list_list_0 l its.toArray n b its2.toArray n2 hlong (by rw [List.size_toArray]; omega) (by omega)) ⟨e,e2,?_⟩
 refine ⟨.non,_,I.lset (its':=its ++ its2) hH e (by simp) (r.append r2) ?_,rfl,q⟩
 rw [List.length_append]
 omega
def zY : V→List V→Hp→VK→Prop:=fun x vs H Q=>∃ l xs i k y,x = .ref l∧vs = [.int i]∧H l = some (.lst xs)∧-(2 ^ 63) ≤ i∧i < 2 ^ 63∧seqIndex? i xs.length = some k∧xs[k]? = some y∧Q y (upd H l (.lst (xs.eraseIdx k)))
theorem aBw : MtM X "list.pop" zY:=by
 intro pins s σ H x vs v us Q I rx rv h
 obtain ⟨l,xs,i,k,y,rfl,rfl,hH,h1,h2,hk,hy,q⟩:=h
 cases rx
 obtain ⟨u,rfl,ru⟩:=rv.one
 obtain ⟨t,rfl⟩:=ru
 obtain ⟨z,its,n,r,hl,e⟩:=I.lstM hH
 obtain ⟨w,hw,rw'⟩:=r.get hy
 refine call_meets F.slot_list_pop ⟨_,e,rfl⟩ F.entry_list_pop (F.args_list_pop_2 _ _)
  (MeetsSeq.list_pop_at l its.toArray n i t k w (fitsIndex_both h1 h2) (by rw [List.size_toArray,← hl]; exact hk) (by rw [← Array.getElem?_toList]; exact hw) (by rw [List.size_toArray]; omega)) ⟨e,?_⟩
 refine ⟨y,_,I.lset (its':=its.eraseIdx k) hH e ?_ (r.eraseIdx k) ?_,rw',q⟩
 ·show its.toArray.eraseIdxIfInBounds k = (its.eraseIdx k).toArray
  rw [List.eraseIdxIfInBounds_toArray]
 ·have:=qV xs k
  omega
def aDR : V→List V→Hp→VK→Prop:=fun x vs H Q=>∃ l xs,x = .ref l∧vs = []∧H l = some (.lst xs)∧Q .non (upd H l (.lst []))
theorem aBx : MtM X "list.clear" aDR:=by
 intro pins s σ H x vs v us Q I rx rv h
 obtain ⟨l,xs,rfl,rfl,hH,q⟩:=h
 cases rx
 have hus:=rv.zero
 subst hus
 obtain ⟨z,its,n,r,hl,e⟩:=I.lstM hH
 refine call_meets F.slot_list_clear ⟨_,e,rfl⟩ F.entry_list_clear (F.args_list_clear_1 _) (AutoSeq1.list_clear_list_0 l its.toArray n (by rw [List.size_toArray]; omega)) ⟨e,?_⟩
 exact ⟨.non,_,I.lset (its':=[]) (ys:=[]) hH e rfl .nil (Nat.zero_le _),rfl,q⟩
end
section
variable {prog : Program} {w : World} {A : Around} {E : Value→Shared→Prop} {s : Shared}
end
section
variable {X : Cx}
end
end L2
namespace Att
open PySem PySem.W PySem.Calls PyProof.Rows
theorem oE {P : Params} {h : Heap} : ∀ (ns : List Int) (vs : List Value),WellAll P h vs (ns.map WData.int)→IntsAre vs ns:=by
 intro ns
 induction ns with
 | nil =>
  intro vs w
  rw [List.map_nil] at w
  cases w
  exact .nil
 | cons n ns ih =>
  intro vs w
  rw [List.map_cons] at w
  cases w with
  | cons a b =>
   cases a
   exact .cons _ _ (ih _ b)
theorem zZ {l : OpenLaw} {n : Nat} (hn : l.most = some n) {P : Params} {h : Heap} {args : List WData} {vals : List Value}
  (hpre : l.row.toRowW.claim.pre args = true) (hwl : WellAll P h vals args) :
  ∃ a vs ns,vals = [Value.ref a]∧args = [WData.list (ns.map WData.int)]∧h.get? a = some { cls:=.type "list",data:=.seq vs.toArray }∧IntsAre vs ns∧ns.length ≤ n:=by
 have hsh : WShape.hasAll [] args [.list .int] = true:=(pre_splitW hpre).1
 have hc : l.pre.holds [] { args:=args } = true:=(pre_splitW hpre).2
 obtain ⟨d,r,rfl,h1,h2⟩:=hasAllW_cons hsh
 obtain rfl:=hasAllW_nil h2
 obtain ⟨xs,rfl,h3⟩:=hasW_list h1
 obtain ⟨ns,rfl⟩:=items_int h3
 have hlen : ns.length ≤ n:=by
  unfold OpenLaw.pre at hc
  have h4 : (WTm.not (.lt (.lit (.int (n : Int))) (.len (.arg 0)))).holds [] { args:=[.list (ns.map .int)] } = true:=by
   have h4:=(holds_andW hc).1
   rw [hn] at h4
   exact h4
  have h5:=condW_of h4 (w_not (w_lt w_lit (w_len_list (w_arg rfl))))
  rw [List.length_map] at h5
  refine Nat.le_of_not_lt fun q=>?_
  have q' : (n : Int) < ((ns.length : Nat) : Int):=by omega
  first
   | (rw [decide_eq_true q'] at h5; exact absurd h5 (by decide))
   | (simp at h5; omega)
 cases hwl with
 | cons w1 w2 =>
  cases w2
  cases w1 with
  | list ho hall=>exact ⟨_,_,ns,rfl,rfl,ho,oE ns _ hall,hlen⟩
theorem aAa (l : OpenLaw) (args : List WData) : l.row.toRowW.claim.post args (.bool true) args = true :=
 postW_of (r:=l.row.toRowW) (X:=(true == true))
  (show WShape.has [] (.bool true) .bool = true by first | rfl | decide | simp [WShape.has,WShape.arms,WShape.armsAll])
  (show (WTm.eq .res (.lit (.bool true))).value [] { args:=args,res:=some (.bool true),after:=args } = some (.bool (true == true)) from w_eq_bool (w_res rfl) w_lit) rfl
theorem attach_call {l : OpenLaw} {n : Nat} {q : Program} {loose : List Str} {XP : (Str→Option Value)→Heap→Prop} {YP : World→Heap→Prop} {d : DefRec}
  (hn : l.most = some n) (hdf : d.params.defaults = [])
  (call : ∀ (w : World) (s₀ s₁ : Shared) (mg mb : Str→Option Value) (fa : Addr) (o : Obj) (pm cd doc : Value) (a : Addr) (vs : List Value) (ns : List Int),
   Ground q loose [] XP w s₀ mg mb s₁.heap→YP w s₁.heap →
   s₁.heap.get? fa = some o→o.data = .func (docDef d.name d.params d.body d.scope pm cd doc)→s₁.heap.CodeRec cd d.name→mg d.name = some (.ref fa) →
   s₁.heap.get? a = some { cls:=.type "list",data:=.seq vs.toArray }→IntsAre vs ns→ns.length ≤ n→s₁.gens = #[] →
   codeAny (model l.prog w) callerA (.call (.ref fa) ⟨[.ref a],[]⟩) (fun r s'=>r = .ok (.ret (.bool true))∧OldK s₁.heap s'.heap∧s'.os = s₁.os∧AllBare s'.gens) s₁) :
  WalkO q loose XP YP l.row.toRowW d [] (fun f vs=>PySem.call f vs):=by
 intro w s₀ s₁ mg mb G Y fa o pm cd doc dV kV ho hd hcd hD hmg hg args vals as hpre hlay hrd hwl hlo
 obtain rfl : dV = .none:=Dflts.none hD hdf
 obtain rfl : kV = .none:=Dflts.noKw hD
 obtain ⟨a,vs,ns,rfl,rfl,hobj,hints,hlen⟩:=zZ hn hpre hwl
 refine enter_call (codeAny_mono (call w s₀ s₁ mg mb fa o pm cd doc a vs ns G Y ho (fd_plain hd) hcd hmg hobj hints hlen hg) fun r s' hq=>?_)
 obtain ⟨rfl,h2,h3,h4⟩:=hq
 exact ⟨.inl ⟨.bool true,.bool true,[],rfl,fun _=>rfl,.bool true,aAa l _,fun _=>⟨List.Pairwise.nil,fun _ hm=>(nomatch hm)⟩⟩,h2,h3,h4⟩
section
variable {prog : Program} {w : World} {A : Around} {E : Value→Shared→Prop} {s : Shared} {K : Frag}
end
end Att
namespace L2
open PySem PySem.Spec PyProof.Rows
theorem kQ : ∀ {vs : List Value} {ns : List Int},IntsAre vs ns→Vals (ns.map V.int) vs
 | _,_,.nil=>.nil
 | _,_,.cons n t h=>.cons ⟨t,rfl⟩ (kQ h)
end L2
namespace L2
open PySem PySem.Spec PyProof.Rows
end L2
namespace L2
open PySem PySem.Spec PyProof.Rows
def eF (s : Stmt) (j : Nat) : Stmt:=match s with
 | .ClassDef _ _ _ body _ _ _ _ _ _ _=>body.getD j (.Pass ⟨0,0,0,0⟩)
 | _=>.Pass ⟨0,0,0,0⟩
def cM (s : Stmt) : Arguments:=match s with
 | .FunctionDef _ a _ _ _ _ _ _ _ _=>a
 | _=>{ posonlyargs:=[],args:=[],vararg:=none,kwonlyargs:=[],kw_defaults:=[],kwarg:=none,defaults:=[] }
def bY (s : Stmt) : List Stmt:=match s with
 | .FunctionDef _ _ b _ _ _ _ _ _ _=>b
 | _=>[]
def aG (s : Stmt) : Scope:=match s with
 | .FunctionDef _ _ _ _ _ _ sc _ _ _=>sc
 | _=>{ kind:=.function,names:=[],isGenerator:=false,isCoroutine:=false }
abbrev CX0 : CXT:=fun _ _ _ _ _ _=>False
abbrev E0 : XK:=fun _ _ _=>False
theorem aR {X : Cx} : dO CX0 X E0:=fun _ _ _ _ _ _ _ h=>h.elim
structure Fun (K : W.Frag) (x qual : Str) (st : Stmt) (f : Addr) (fd : FuncData) : Prop where
 ex : ∃ (oc : Value) (od : Option Addr) (kV doc pm : Value) (an : Option Addr) (cdv ct : Value) (osl : Array (Option Value)),
  fd = W.fnOf x qual (cM st) (bY st) (aG st) .none kV doc pm an cdv ct∧K.lookup f = some ⟨oc,od,.func fd,osl⟩∧W.codeIn K cdv qual = true
 kp : W.keepIn K (.ref f) = true
section
variable {P : Program} {w : World} {K : W.Frag} {mg : Str→Option Value} {base : Heap}
theorem Fun.ok {x qual : Str} {st : Stmt} {f : Addr} {fd : FuncData} {N ps : List Str} {k : Nat} {sp : Sp} (F : Fun K x qual st f fd) (S : aM N ps (aG st)) (len : ∀ vs H Q E,sp vs H Q E→vs.length = ps.length)
  (hbody : ∀ (cdv : Value) (A : Around) (outer : List Env) (s : Shared) (H : Hp) (vs : List V) (Q : VK) (E : XK),Room k (A.deeper (envOfC qual (aG st) s.heap.objs.size f cdv))→sp vs H Q E →
   ∃ t,PSs (cxOf CX0 P w K mg base N qual (aG st) f cdv A outer s H E).nox (bY st) t∧t { nx:=fun _ H'=>Q .non H',rt:=Q } (start N vs) H) : FnOk P w K mg base CX0 (k + 1) f fd ps sp:=by
 obtain ⟨oc,od,kV,doc,pm,an,cdv,ct,osl,rfl,lk,hcd⟩:=F.ex
 refine xQ lk hcd S len fun A outer s H vs Q E hr hsp=>?_
 obtain ⟨t,h,q⟩:=hbody cdv A outer s H vs Q E hr hsp
 exact ⟨t,h.nox,q⟩
theorem Fun.binds {x qual : Str} {st : Stmt} {f : Addr} {fd : FuncData} {ps : List Str} (F : Fun K x qual st f fd)
  (h : ∀ (kV doc pm : Value) (an : Option Addr) (cdv ct : Value) (us : List Value),us.length = ps.length→bindArgs (W.fnOf x qual (cM st) (bY st) (aG st) .none kV doc pm an cdv ct) ⟨us,[]⟩ = pure (ps.zip us)) : dE K fd ps []:=by
 obtain ⟨oc,od,kV,doc,pm,an,cdv,ct,osl,rfl,lk,hcd⟩:=F.ex
 exact .all (h kV doc pm an cdv ct)
theorem kR {x qual : Str} {st : Stmt} {f : Addr} {oc : Value} {od an : Option Addr} {osl : Array (Option Value)} {kV doc pm cdv ct : Value} (l : K.lookup f = some ⟨oc,od,.func (W.fnOf x qual (cM st) (bY st) (aG st) .none kV doc pm an cdv ct),osl⟩)
  (c : W.codeIn K cdv qual = true) (k : W.keepIn K (.ref f) = true) : Fun K x qual st f (W.fnOf x qual (cM st) (bY st) (aG st) .none kV doc pm an cdv ct):=⟨⟨oc,od,kV,doc,pm,an,cdv,ct,osl,rfl,l,c⟩,k⟩
end
section
variable {X : Cx}
theorem pv (i : Nat) {x : Str} {pos : Pos} (hN : X.N[i]? = some x:=by rfl) (hv : Vis X.env.scope x:=by first | exact Or.inl rfl | exact Or.inr (Or.inl rfl) | exact Or.inr (Or.inr rfl)) (hd : (x == ("__debug__" : Str)) = false:=by decide)
  (hcd : (x == ("__classdict__" : Str)) = false:=by decide) : PE X (.Name x pos) (tVar i):=aDG hN hv hd hcd
end
theorem iteF {A B : Prop} (h : B) : if false = true then A else B:=by
 rw [if_neg Bool.false_ne_true]
 exact h
theorem iteT {A B : Prop} (h : A) : if true = true then A else B:=by
 rw [if_pos rfl]
 exact h
theorem ite2 {c A B : Prop} [Decidable c] (h1 : c→A) (h2 : ¬ c→B) : if c then A else B:=by
 by_cases h : c
 ·rw [if_pos h]
  exact h1 h
 ·rw [if_neg h]
  exact h2 h
def Same (H H' : Hp) : Prop:=∀ b o,H b = some o→H' b = some o
theorem Same.refl (H : Hp) : Same H H:=fun _ _ h=>h
theorem Same.trans {H H1 H2 : Hp} (a : Same H H1) (b : Same H1 H2) : Same H H2:=fun c o h=>b c o (a c o h)
theorem Same.free {H H' : Hp} (e : Same H H') {l : Addr} (h : H' l = Option.none) : H l = Option.none:=by
 cases q : H l with
 | none=>rfl
 | some o =>
  rw [e l o q] at h
  cases h
end L2
namespace L2
open PySem PySem.Spec PyProof.Rows
def cSt (src : List (Option Nat)) (σ : St) : St:=src.map fun o=>match o with | some j=>σ.getD j none | none=>none
theorem aCJ {src : List (Option Nat)} {σ : St} {i : Nat} {v : V} (h : (cSt src σ)[i]? = some (some v)) : ∃ j,src[i]? = some (some j)∧σ[j]? = some (some v):=by
 unfold cSt at h
 rw [List.getElem?_map] at h
 cases e : src[i]? with
 | none=>rw [e] at h; cases h
 | some o =>
  rw [e] at h
  cases o with
  | none=>cases h
  | some j =>
   refine ⟨j,rfl,?_⟩
   have h' : σ.getD j none = some v:=Option.some.inj h
   rw [List.getD_eq_getElem?_getD] at h'
   cases e2 : σ[j]? with
   | none=>rw [e2] at h'; cases h'
   | some o=>rw [e2] at h'; rw [show o = some v from h']
structure eU (NB : List Str) (src : List (Option Nat)) (scope : Scope) (X : Cx) : Prop where
 kind : scope.kind = .function
 nd : NB.Nodup
 len : src.length = NB.length
 cells : ∀ y∈scope.names,y.2 = .cell→scope.names.lookup y.1 = some .cell
 names : ∀ y∈scope.names,y.2 = .local→scope.names.lookup y.1 = some .local
 free : ∀ y∈scope.names,y.2 = .free→X.env.scope.names.lookup y.1 = some .cell∨X.env.scope.names.lookup y.1 = some .free
 src : ∀ (i : Nat) (x : Str) (j : Nat),NB[i]? = some x→src[i]? = some (some j)→X.N[j]? = some x∧scope.names.lookup x = some .free
def pL (scope : Scope) (x : Str) : Bool:=match scope.names.lookup x with
 | some .cell=>true
 | _=>false
theorem vA {scope : Scope} {x : Str} : pL scope x = true↔scope.names.lookup x = some .cell:=by
 unfold pL
 split
 ·rename_i h; exact ⟨fun _=>h,fun _=>rfl⟩
 ·rename_i h; exact ⟨fun z=>(by cases z),fun z=>absurd z h⟩
def blk (X : Cx) (NB : List Str) (scope : Scope) (cl : List (Str × Addr)) (C : Addr) (s₃ : Shared) (H₃ : Hp) (fp : List Addr) : Cx :=
 { X with N:=NB,s₀:=s₃,H₀:=H₃,env:=compEnvC scope cl C X.env,outer:=X.stack,stack:=X.stack,ex:=fp,fn:=pL scope,pn:=[],xe:=fun _ _=>False }
theorem jS {env : Env} : ∀ (names : List (Str × NameKind)) (acc : List (Str × Addr)),(∀ y∈names,y.2 = NameKind.free→∃ c,env.cells.lookup y.1 = some c)→(∀ x c,acc.lookup x = some c→env.cells.lookup x = some c) →
  ∃ cl,(forIn names acc fun x r=>(if (x.2 == NameKind.free) = true then (do let a ← cellOf env x.1; pure (ForInStep.yield ((x.1,a) :: r))) else pure (ForInStep.yield r) : Sem (ForInStep (List (Str × Addr))))) = (pure cl : Sem (List (Str × Addr))) ∧
   (∀ x c,cl.lookup x = some c→env.cells.lookup x = some c)∧(∀ x c,acc.lookup x = some c→∃ c',cl.lookup x = some c')∧∀ x,(x,NameKind.free)∈names→∃ c,cl.lookup x = some c
 | [],acc,_,ha=>⟨acc,by rw [List.forIn_nil],ha,fun x c h=>⟨c,h⟩,fun x h=>nomatch h⟩
 | (n,k) :: r,acc,hf,ha=>by
  by_cases hk : k = NameKind.free
  ·subst hk
   obtain ⟨c,hc⟩:=hf (n,NameKind.free) List.mem_cons_self rfl
   have ha' : ∀ x c',((n,c) :: acc).lookup x = some c'→env.cells.lookup x = some c':=fun x c' h=>by
    rw [List.lookup_cons] at h
    cases hx : x == n with
    | true =>
     rw [hx] at h
     cases h
     have : x = n:=by simpa using hx
     rw [this]; exact hc
    | false=>rw [hx] at h; exact ha x c' h
   obtain ⟨cl,e1,e2,e3,e4⟩:=jS r ((n,c) :: acc) (fun y hy=>hf y (List.mem_cons_of_mem _ hy)) ha'
   refine ⟨cl,?_,e2,fun x c' h=>?_,fun x h=>?_⟩
   ·rw [List.forIn_cons]
    have ec : cellOf env n = pure c:=by unfold cellOf; rw [hc]
    have e0 : (if ((n,NameKind.free).2 == NameKind.free) = true then (do let a ← cellOf env (n,NameKind.free).1; pure (ForInStep.yield (((n,NameKind.free).1,a) :: acc))) else pure (ForInStep.yield acc) : Sem (ForInStep (List (Str × Addr)))) = pure (ForInStep.yield ((n,c) :: acc)):=by
     rw [if_pos (show (NameKind.free == NameKind.free) = true by decide)]
     show cellOf env n >>= _ = _
     rw [ec]; rfl
    rw [e0]
    exact e1
   ·cases hx : x == n with
    | true=>exact e3 x c (by rw [List.lookup_cons,hx])
    | false=>exact e3 x c' (by rw [List.lookup_cons,hx]; exact h)
   ·rcases List.mem_cons.mp h with h | h
    ·cases h
     exact e3 n c (by rw [List.lookup_cons]; simp)
    ·exact e4 x h
  ·obtain ⟨cl,e1,e2,e3,e4⟩:=jS r acc (fun y hy=>hf y (List.mem_cons_of_mem _ hy)) ha
   refine ⟨cl,?_,e2,e3,fun x h=>?_⟩
   ·rw [List.forIn_cons]
    have hb : (k == NameKind.free) = false:=by simpa using hk
    have e0 : (if ((n,k).2 == NameKind.free) = true then (do let a ← cellOf env (n,k).1; pure (ForInStep.yield (((n,k).1,a) :: acc))) else pure (ForInStep.yield acc) : Sem (ForInStep (List (Str × Addr)))) = pure (ForInStep.yield acc):=by
     rw [if_neg (by show ¬ (k == NameKind.free) = true; rw [hb]; decide)]
    rw [e0]
    exact e1
   ·rcases List.mem_cons.mp h with h | h
    ·cases h; exact absurd rfl hk
    ·exact e4 x h
theorem jT {X : Cx} (ok : X.Ok) {NB : List Str} {src : List (Option Nat)} {scope : Scope} (S : eU NB src scope X) :
  ∃ cl,closureFor scope X.env = pure cl∧(∀ x c,cl.lookup x = some c→X.env.cells.lookup x = some c)∧∀ x,(x,NameKind.free)∈scope.names→∃ c,cl.lookup x = some c:=by
 obtain ⟨cl,e1,e2,_,e4⟩:=jS (env:=X.env) scope.names [] (fun y hy hk=>ok.has y.1 (S.free y hy hk)) (fun x c h=>nomatch h)
 refine ⟨cl,?_,e2,e4⟩
 unfold closureFor
 simp only [bind_pure]
 exact e1
theorem sR {scope : Scope} {env : Env} {x : Str} (h : scope.names.lookup x = some .free) : (relabel scope env).names.lookup x = some .cell∨(relabel scope env).names.lookup x = some .free:=by
 have go : ∀ names : List (Str × NameKind),names.lookup x = some .free →
   (names.map fun (n,k)=>if (k == NameKind.free && env.scope.kind == .function && env.kindOf n == some .cell) then (n,NameKind.cell) else (n,k)).lookup x = some .cell ∨
   (names.map fun (n,k)=>if (k == NameKind.free && env.scope.kind == .function && env.kindOf n == some .cell) then (n,NameKind.cell) else (n,k)).lookup x = some .free:=by
  intro names
  induction names with
  | nil=>intro h; simp at h
  | cons y r ih =>
   intro h
   obtain ⟨n,k⟩:=y
   rw [List.lookup_cons] at h
   rw [List.map_cons]
   cases hx : x == n with
   | true =>
    rw [hx] at h
    cases h
    by_cases hc : (NameKind.free == NameKind.free && env.scope.kind == .function && env.kindOf n == some .cell) = true
    ·left; show List.lookup x ((if _ then _ else _) :: _) = _; rw [if_pos hc,List.lookup_cons,hx]
    ·right; show List.lookup x ((if _ then _ else _) :: _) = _; rw [if_neg hc,List.lookup_cons,hx]
   | false =>
    rw [hx] at h
    by_cases hc : (k == NameKind.free && env.scope.kind == .function && env.kindOf n == some .cell) = true
    ·show List.lookup x ((if _ then _ else _) :: _) = _∨List.lookup x ((if _ then _ else _) :: _) = _
     rw [if_pos hc,List.lookup_cons,hx]; exact ih h
    ·show List.lookup x ((if _ then _ else _) :: _) = _∨List.lookup x ((if _ then _ else _) :: _) = _
     rw [if_neg hc,List.lookup_cons,hx]; exact ih h
 exact go scope.names h
theorem kT {scope : Scope} {env : Env} {x : Str} {k : NameKind} (h : (relabel scope env).names.lookup x = some k) (hk : k = .cell∨k = .free) : (x,NameKind.free)∈scope.names∨(x,NameKind.cell)∈scope.names:=by
 have m:=PySem.mem_of_lookup h
 obtain ⟨⟨n,k'⟩,hm,e⟩:=List.mem_map.mp m
 by_cases q : (k' == NameKind.free && env.scope.kind == .function && env.kindOf n == some .cell) = true
 ·have e' : (n,NameKind.cell) = (x,k):=by simpa [q] using e
  have k1 : k' = NameKind.free:=by
   simp only [Bool.and_eq_true,beq_iff_eq] at q
   exact q.1.1
  cases e'
  left
  rw [← k1]; exact hm
 ·have e' : (n,k') = (x,k):=by simpa [q] using e
  cases e'
  rcases hk with z | z
  ·subst z; exact .inr hm
  ·subst z; exact .inl hm
theorem kU : ∀ (names : List (Str × NameKind)) (h : Heap) (acc : List (Str × Addr)) (x : Str) (c : Addr),(cellsFrom h.objs.size names acc).lookup x = some c→acc.lookup x = some c∨(h.objs.size ≤ c∧(pushCells h names).IsCell c none)
 | [],_,_,_,_,e=>.inl e
 | (name,kind) :: r,h,acc,x,c,e=>by
  unfold cellsFrom at e
  unfold pushCells
  split at e
  ·rename_i hk
   rw [if_pos hk]
   have hsz : (h.push { cls:=.type "cell",data:=.cell none }).objs.size = h.objs.size + 1:=Heap.size_push ..
   rw [← hsz] at e
   rcases kU r _ _ x c e with z | ⟨z1,z2⟩
   ·rw [List.lookup_cons] at z
    cases hx : x == name with
    | true =>
     rw [hx] at z
     cases z
     exact .inr ⟨Nat.le_refl _,_,pushCells_keeps r _ _ _ (Heap.get?_push_size _ rfl),rfl⟩
    | false=>rw [hx] at z; exact .inl z
   ·exact .inr ⟨by omega,z2⟩
  ·rename_i hk
   rw [if_neg hk]
   exact kU r h acc x c e
theorem qW : ∀ (names : List (Str × NameKind)) (n : Nat) (acc : List (Str × Addr)) (x : Str),(x,NameKind.cell)∈names→∃ c,n ≤ c∧(cellsFrom n names acc).lookup x = some c:=by
 have up : ∀ (names : List (Str × NameKind)) (n m : Nat) (acc : List (Str × Addr)) (x : Str) (c : Addr),acc.lookup x = some c→m ≤ c→m ≤ n→∃ c',m ≤ c'∧(cellsFrom n names acc).lookup x = some c':=by
  intro names
  induction names with
  | nil=>intro n m acc x c e h _; exact ⟨c,h,e⟩
  | cons y r ih =>
   intro n m acc x c e h hm
   obtain ⟨name,kind⟩:=y
   unfold cellsFrom
   split
   ·cases hx : x == name with
    | true=>exact ih (n + 1) m _ x n (by rw [List.lookup_cons,hx]) hm (by omega)
    | false=>exact ih (n + 1) m _ x c (by rw [List.lookup_cons,hx]; exact e) h (by omega)
   ·exact ih n m acc x c e h hm
 intro names
 induction names with
 | nil=>intro n acc x h; cases h
 | cons y r ih =>
  intro n acc x h
  obtain ⟨name,kind⟩:=y
  unfold cellsFrom
  rcases List.mem_cons.mp h with z | z
  ·cases z
   rw [if_pos (by decide)]
   exact up r (n + 1) n _ x n (by rw [List.lookup_cons]; simp) (Nat.le_refl _) (by omega)
  ·split
   ·obtain ⟨c,h1,h2⟩:=ih (n + 1) ((name,n) :: acc) x z
    exact ⟨c,by omega,h2⟩
   ·exact ih n acc x z
theorem iO : ∀ (names : List (Str × NameKind)) (n : Nat) (acc : List (Str × Addr)) (x : Str) (c : Addr),acc.lookup x = some c→(x,NameKind.cell) ∉ names→(cellsFrom n names acc).lookup x = some c
 | [],_,_,_,_,e,_=>e
 | (name,kind) :: r,n,acc,x,c,e,h=>by
  have hr : (x,NameKind.cell) ∉ r:=fun z=>h (List.mem_cons_of_mem _ z)
  unfold cellsFrom
  split
  ·rename_i hk
   have hne : (x == name) = false:=by
    cases hx : x == name with
    | false=>rfl
    | true =>
     have e1 : x = name:=by simpa using hx
     have e2 : kind = .cell:=by simpa using hk
     exact absurd (by rw [e1,e2]; exact List.mem_cons_self) h
   exact iO r (n + 1) _ x c (by rw [List.lookup_cons,hne]; exact e) hr
  ·exact iO r n acc x c e hr
theorem kW : ∀ (names : List (Str × NameKind)) (n : Nat) (acc : List (Str × Addr)),(∀ x y c,acc.lookup x = some c→acc.lookup y = some c→x = y)→(∀ x c,acc.lookup x = some c→c < n)→∀ x y c,(cellsFrom n names acc).lookup x = some c→(cellsFrom n names acc).lookup y = some c→x = y
 | [],_,_,hi,_=>hi
 | (name,kind) :: r,n,acc,hi,hl=>by
  unfold cellsFrom
  split
  ·refine kW r (n + 1) _ (fun x y c h1 h2=>?_) (fun x c h=>?_)
   ·rw [List.lookup_cons] at h1 h2
    cases hx : x == name <;> cases hy : y == name <;> rw [hx] at h1 <;> rw [hy] at h2
    ·exact hi x y c h1 h2
    ·cases h2; exact absurd (hl x _ h1) (Nat.lt_irrefl _)
    ·cases h1; exact absurd (hl y _ h2) (Nat.lt_irrefl _)
    ·have e1 : x = name:=by simpa using hx
     have e2 : y = name:=by simpa using hy
     rw [e1,e2]
   ·rw [List.lookup_cons] at h
    cases hx : x == name <;> rw [hx] at h
    ·exact Nat.lt_succ_of_lt (hl x c h)
    ·cases h; exact Nat.lt_succ_self _
  ·exact kW r n acc hi hl
section
variable {X : Cx} {pins : List (Addr × Obj)} {σ : St} {H : Hp} {s : Shared} {NB : List Str} {src : List (Option Nat)} {scope : Scope} {cl : List (Str × Addr)} {fp : List Addr} {h₁ : Heap} {t₁ : Nat}
theorem aCK (I : Inv X pins σ H s) (S : eU NB src scope X) (c1 : ∀ x c,cl.lookup x = some c→X.env.cells.lookup x = some c) (c2 : ∀ x,(x,NameKind.free)∈scope.names→∃ c,cl.lookup x = some c)
  (hf : ∀ b∈fp,FpOk X pins H b) (hfo : ∀ b∈fp,b < s.heap.objs.size) {m : Str→Option Value} (hn : h₁.Ns s.heap.objs.size m) (hk : ∀ b o,s.heap.get? b = some o→h₁.get? b = some o)
  (hnew : ∀ x c,(cellsFrom (s.heap.objs.size + 1) scope.names cl).lookup x = some c→cl.lookup x = some c∨(s.heap.objs.size < c∧h₁.IsCell c none)) :
  Inv (blk X NB scope (cellsFrom (s.heap.objs.size + 1) scope.names cl) s.heap.objs.size s H fp) [] (cSt src σ) H { s with heap:=h₁,toks:=t₁ }:=by
 have stk : ∀ b∈frs X.stack,b∈X.env.locals :: X.fs:=I.stkSub
 have cellOk : ∀ x c,cl.lookup x = some c→∃ v,s.heap.IsCell c v:=fun x c e=>I.cell x c (c1 x c e)
 have clLt : ∀ x c,cl.lookup x = some c→c < s.heap.objs.size:=fun x c e=>by obtain ⟨v,o,ho,_⟩:=cellOk x c e; exact Heap.lt_size ho
 refine ⟨⟨I.ok.mod,S.kind,I.ok.glob,I.ok.blt,Nat.le_refl _,kW _ _ _ (fun x y c e1 e2=>I.ok.inj x y c (c1 x c e1) (c1 y c e2)) (fun x c e=>Nat.lt_succ_of_lt (clLt x c e)),fun x hx=>?_,fun x c z e=>?_,I.ok.hd,I.ok.frames,.inl rfl,fun b hb=>⟨?_,fun x c e=>?_⟩,I.bs,Nat.le_trans I.ok.bsz I.sz,fun b o e hb=>?_,fun b hb=>?_,I.stack,I.stkFree⟩,
  rfl,I.bare,Un.kept hk,⟨m,hn,fun i x v e1 e2 e3=>?_⟩,fun x c e=>?_,I.hok.fresh (Nat.le_refl _),fun x c e=>?_,fun p hp=>absurd (show p∈([] : List (Addr × Obj)) from hp) (by simp),I.hok.kept hk,?_⟩
 ·have both : (x,NameKind.free)∈scope.names∨(x,NameKind.cell)∈scope.names:=by
   rcases hx with hx | hx
   ·exact kT hx (.inl rfl)
   ·exact kT hx (.inr rfl)
  by_cases hc : (x,NameKind.cell)∈scope.names
  ·obtain ⟨c,_,e⟩:=qW scope.names (s.heap.objs.size + 1) cl x hc
   exact ⟨c,e⟩
  ·rcases both with z | z
   ·obtain ⟨c,e⟩:=c2 x z
    exact ⟨c,iO _ _ _ _ _ e hc⟩
   ·exact absurd z hc
 ·have hm:=PySem.mem_of_lookup (vA.mp z)
  obtain ⟨c',h1,h2⟩:=qW scope.names (s.heap.objs.size + 1) cl x hm
  have e' : (cellsFrom (s.heap.objs.size + 1) scope.names cl).lookup x = some c:=e
  rw [h2] at e'
  cases e'
  exact Nat.le_of_succ_le h1
 ·exact Nat.ne_of_lt (hfo b hb)
 ·rcases hnew x c e with z | ⟨z,_⟩
  ·exact (hf b hb).2.2.2.2.1 x c (c1 x c z)
  ·exact Nat.ne_of_gt (Nat.lt_trans (hfo b hb) z)
 ·rcases (hf b hb).2.2.2.1 with z | z
  ·exact I.ok.noex b o e z
  ·exact absurd (Nat.lt_of_lt_of_le (Heap.lt_size e) (Nat.le_trans I.ok.bsz z)) (Nat.lt_irrefl _)
 ·intro z
  rcases List.mem_cons.mp (stk b z) with e | e
  ·exact (hf b hb).2.1 e
  ·exact (hf b hb).2.2.1 e
 ·obtain ⟨j,hj,hv⟩:=aCJ e2
  obtain ⟨hN,hF⟩:=S.src i x j e1 hj
  obtain ⟨m0,hn0,hl0⟩:=I.loc
  have hmem:=PySem.mem_of_lookup hF
  have kx:=S.free _ hmem rfl
  have vis : Vis X.env.scope x:=by
   rcases kx with z | z
   ·exact .inr (.inl z)
   ·exact .inr (.inr z)
  obtain ⟨u,r,l⟩:=hl0 j x v hN hv vis
  refine ⟨u,r,.inr ⟨sR hF,?_⟩⟩
  obtain ⟨c,hc⟩:=c2 x hmem
  have hnc : (x,NameKind.cell) ∉ scope.names:=fun z=>by
   have:=S.cells _ z rfl
   rw [hF] at this; cases this
  refine ⟨c,iO _ _ _ _ _ hc hnc,?_⟩
  rcases l with ⟨hk',_⟩ | ⟨_,c',e,z⟩
  ·have hk'' : X.env.scope.names.lookup x = some .local:=hk'
   rcases kx with z | z <;> (rw [z] at hk''; cases hk'')
  ·rw [c1 x c hc] at e
   cases e
   obtain ⟨o,ho,hd⟩:=z
   exact ⟨o,hk _ _ ho,hd⟩
 ·rcases hnew x c e with z | ⟨_,z⟩
  ·obtain ⟨v,o,ho,hd⟩:=cellOk x c z
   exact ⟨v,o,hk _ _ ho,hd⟩
  ·exact ⟨none,z⟩
 ·rcases hnew x c e with z | ⟨z,_⟩
  ·exact I.freeC x c (c1 x c z)
  ·exact I.hok.fresh (Nat.le_of_lt z)
 ·show (cSt src σ).length = NB.length
  unfold cSt
  rw [List.length_map]
  exact S.len
theorem Inv.unblk {C : Addr} {σB : St} {H' : Hp} {s' : Shared} (I : Inv X pins σ H s) (J : Inv (blk X NB scope cl C s H fp) [] σB H' s') (hf : ∀ b∈fp,FpOk X pins H b) : Inv X pins σ H' s':=by
 refine I.call' (ch:=fp) J.os J.base J.hok J.bare fun b hb=>?_
 obtain ⟨_,f1,_,f3,f4,f5⟩:=hf b hb
 exact ⟨f3,f1,f4,f5⟩
end
def PTs (X : Cx) (ifs : List Expr) (t : TT) : Prop :=
 ∀ (pins : List (Addr × Obj)) (s : Shared) (σ : St) (H : Hp) (Q : Bool→Hp→Prop),Inv X pins σ H s→t σ H Q →
  wpAny (model X.prog X.w) X.A (forIn ifs true fun c r=>if r = true then do let ok ← isTrue c X.env (eval c X.env); pure (ForInStep.yield ok) else pure (ForInStep.yield r)) (TP X pins σ Q) X.xe s
def tYes : TT:=fun _ H Q=>Q true H
theorem cF {X : Cx} : PTs X [] tYes:=fun _ _ _ H _ I h=>wpAny_tests_nil ⟨H,I,h⟩
theorem hJ {X : Cx} {c : Expr} {t : TT} (h : PT X c t) : PTs X [c] t:=fun pins s σ H Q I q=>wpAny_tests_one (h pins s σ H Q I q)
def gC (J : It) (g : TG) (tt : TT) (te : TE) (D : Addr) (fin : Hp→Prop) (σB : St) (H1 : Hp) : Prop :=
 ∃ W : Nat→Nat→St→Hp→Prop,(∃ m,W 0 m σB H1)∧∀ i m σ H,W i m σ H→(J.stop i H∧fin H)∨(J.go i H∧∀ x H',J.yld i H x H'→g x σ H' fun σ2 H2=>tt σ2 H2 fun b H3 =>
  if b = true then te σ2 H3 fun v H4=>∃ ys,H4 D = some (.lst ys)∧ys.length < sizeLine∧∃ m',m' < m∧W (i + 1) m' σ2 (upd H4 D (.lst (ys ++ [v]))) else ∃ m',m' < m∧W (i + 1) m' σ2 H3)
theorem aAb {B : Cx} {elt tg iter : Expr} {ifs : List Expr} {scope : Scope} {pos : Pos} {J : It} {g : TG} {tt : TT} {te : TE} {D it : Addr} {fp : List Addr} {tn : Nat→Heap→Prop} {fin : Hp→Prop} {R : Result→Shared→Prop} {s : Shared} {σB : St} {H1 : Hp}
  (hx : B.xe = fun _ _=>False) (hc : B.calm = true) (T : Turn B.prog B.w B.K tg J fp it tn) (hg : PG B tg g) (ht : PTs B ifs tt) (he : PE B elt te) (I : Inv B [] σB H1 s) (st : tn 0 s.heap) (hf : ∀ b∈fp,FpOk B [] H1 b)
  (hw : gC J g tt te D fin σB H1) (hR : ∀ σ' H' s',Inv B [] σ' H' s'→fin H'→R (.ok .next) s') :
  codeAny (model B.prog B.w) B.A (.compLoop (.ListComp elt [⟨tg,iter,ifs,0⟩] scope pos) 0 (.ref it) (.ref D) B.env) R s:=by
 obtain ⟨W,⟨m0,w0⟩,turn⟩:=hw
 have stat : ∀ {H' : Hp},(∀ b∈fp,H' b = none)→∀ b∈fp,FpOk B [] H' b:=fun hn b hb=>⟨hn b hb,(hf b hb).2⟩
 refine codeAny_loop rfl (fun n s'=>∃ i σ' H',Inv B [] σ' H' s'∧tn i s'.heap∧(∀ b∈fp,H' b = none)∧W i n σ' H') ?_ m0 ⟨0,σB,H1,I,st,fun b hb=>(hf b hb).1,w0⟩
 rintro n s3 ⟨i,σ3,H3,I3,st3,fr3,w3⟩
 show wpAny _ B.A ((compTurn (.ListComp elt [⟨tg,iter,ifs,0⟩] scope pos) 0 (.ref it) (.ref D) B.env).onRaise (fun x=>do noteFrame x B.env; theTreesLotGoes x)) _ _ s3
 refine wpAny_noted ?_
 rw [compTurn_list]
 have nx : ∀ {α : Type} {t : Sem α} {Q : α→Shared→Prop} {E' : Value→Shared→Prop} {s : Shared},wpAny (model B.prog B.w) B.A t Q B.xe s→wpAny (model B.prog B.w) B.A t Q E' s:=fun h =>
  wpAny_mono h (fun _ _ q=>q) fun _ _ z=>by rw [hx] at z; exact z.elim
 rcases turn i n σ3 H3 w3 with ⟨stop,qn⟩ | ⟨go,step⟩
 ·refine wpAny_bind (wpAny_standAt (wpAny_bind (thn (T.done B rfl rfl rfl hc i [] s3 σ3 H3 _ I3 (stat fr3) st3 stop) fun r s4 ⟨hr,I4⟩=>?_)))
  subst hr
  exact wpAny_pure (hR σ3 H3 s4 I4 qn)
 ·refine wpAny_bind (wpAny_standAt (wpAny_bind (thn (T.item B rfl rfl rfl hc i [] s3 σ3 H3 _ I3 (stat fr3) st3 go) fun r s4 ⟨u,hr,h4⟩=>?_)))
  subst hr
  refine wpAny_bind (thn h4 fun _ s5 ⟨x,H5,I5,r5,y5,st5,fr5⟩=>?_)
  have I5':=I5.pinned (stat fr5) (T.obj _ _ st5)
  refine wpAny_bind (nx (thn (hg _ s5 σ3 H5 x u _ I5' r5 (step x H5 y5)) fun _ s6 ⟨σ6,H6,I6,q6⟩=>?_))
  have back : ∀ {σ7 : St} {H7 : Hp} {s7 : Shared} {m' : Nat},Inv B ([] ++ kM fp s5.heap) σ7 H7 s7→m' < n→W (i + 1) m' σ7 H7→∃ m,m < n∧∃ i σ' H',Inv B [] σ' H' s7∧tn i s7.heap∧(∀ b∈fp,H' b = none)∧W i m σ' H':=fun {σ7 H7 s7 m'} I7 hm w7=>by
   refine ⟨m',hm,i + 1,σ7,H7,I7.unpinned,T.keep _ _ _ st5 fun b hb o e=>(I7.pin (b,o) (List.mem_append_right _ (List.mem_append_right _ (gP hb e)))).1,fun b hb=>?_,w7⟩
   obtain ⟨o,e,d⟩:=T.obj _ _ st5 b hb
   exact (I7.pin (b,o) (List.mem_append_right _ (List.mem_append_right _ (gP hb e)))).2.1
  refine wpAny_bind (nx (thn (ht _ s6 σ6 H6 _ I6 q6) fun ok s7 ⟨H7,I7,q7⟩=>?_))
  cases ok with
  | false =>
   rw [if_neg Bool.false_ne_true] at q7
   obtain ⟨m',hm,w7⟩:=q7
   exact wpAny_pure ⟨rfl,back I7 hm w7⟩
  | true =>
   rw [if_pos rfl] at q7
   refine wpAny_bind (wpAny_bind (nx (thn (he _ s7 σ6 H7 _ I7 q7) fun v s8 ⟨y,H8,I8,r8,ys,hD,hl,m',hm,w8⟩=>?_)))
   refine wpAny_bind (nx (thn (dA _ s8 σ6 H8 (.ref D) [y] (.ref D) [v] (fun _ H9=>H9 = upd H8 D (.lst (ys ++ [y]))) I8 rfl (.cons r8 .nil) ⟨D,ys,y,rfl,rfl,hD,hl,rfl⟩) fun _ s9 ⟨_,H9,I9,_,e9⟩=>?_))
   subst e9
   exact wpAny_pure (wpAny_pure ⟨rfl,back I9 hm w8⟩)
end L2
namespace L2
open PySem PySem.Spec PyProof.Rows
theorem sS {M : Model} {A : Around} {E : Value→Shared→Prop} {s : Shared} {scope : Scope} {globals : Addr} {cl : List (Str × Addr)} {qual : Str} {outer : Env} {Q : Env→Shared→Prop}
  (hQ : Q { scope:=scope,locals:=s.heap.objs.size,globals:=globals,cells:=cellsFrom (s.heap.objs.size + 1) scope.names cl,qual:=qual,func:=none,code:=outer.code,frame:=outer.frame,builtins:=outer.builtins }
   { s with heap:=pushCells (s.heap.push { cls:=.type "dict",data:=.dict #[] }) scope.names }) :
  wpAny M A (newFunctionEnv scope globals cl [] qual none .none (some outer)) Q E s:=by
 simp only [newFunctionEnv,Option.isSome_some,if_true]
 refine wpAny_bind (wpAny_alloc ?_)
 refine wpAny_bind (wpAny_layCells _ (fun name kind cells=>by cases hkc : kind == NameKind.cell <;> simp [hkc]) _ _ _ _ ?_)
 rw [show ({ s with heap:=s.heap.push { cls:=.type "dict",data:=.dict #[] } } : Shared).heap.objs.size = s.heap.objs.size + 1 from Heap.size_push ..]
 refine wpAny_bind ?_
 rw [List.forIn_nil]
 exact wpAny_pure (wpAny_pure hQ)
section
variable {X : Cx} {elt tg iter : Expr} {ifs : List Expr} {scope : Scope} {pos : Pos} {wi : TI} {g : TG} {tt : TT} {te : TE} {NB : List Str} {src : List (Option Nat)}
def xU (src : List (Option Nat)) (wi : TI) (g : TG) (tt : TT) (te : TE) : TE:=fun σ H Q=>wi σ H fun J H1=>∀ D,H1 D = none→gC J g tt te D (fun H'=>Q (.ref D) H') (cSt src σ) (upd H1 D (.lst []))
theorem oF {pins : List (Addr × Obj)} {σ : St} {H2 : Hp} {s2 : Shared} {J : It} {fp : List Addr} {it : Addr} {tn : Nat→Heap→Prop} {cl : List (Str × Addr)} {fin : Addr→Hp→Prop} {E' : Value→Shared→Prop} {RR : Value→Addr→Result→Shared→Prop}
  (S : eU NB src scope X) (hc : X.calm = true) (c1 : ∀ x c,cl.lookup x = some c→X.env.cells.lookup x = some c) (c2 : ∀ x,(x,NameKind.free)∈scope.names→∃ c,cl.lookup x = some c)
  (hg : ∀ cl C s₃ H₃ fp,PG (blk X NB scope cl C s₃ H₃ fp) tg g) (ht : ∀ cl C s₃ H₃ fp,PTs (blk X NB scope cl C s₃ H₃ fp) ifs tt) (he : ∀ cl C s₃ H₃ fp,PE (blk X NB scope cl C s₃ H₃ fp) elt te)
  (I2 : Inv X pins σ H2 s2) (T : Turn X.prog X.w X.K tg J fp it tn) (st2 : tn 0 s2.heap) (f2 : ∀ b∈fp,FpOk X pins H2 b)
  (hw : ∀ D,H2 D = none→gC J g tt te D (fin D) (cSt src σ) (upd H2 D (.lst [])))
  (hR : ∀ D C H' s',FpOk X pins H' C→Inv X pins σ H' s'→(∃ m,s'.heap.Ns C m)→fin D H'→RR (.ref D) C (.ok .next) s') :
  wpAny (model X.prog X.w) X.A (newList []) (fun acc s₃=>wpAny (model X.prog X.w) X.A (newFunctionEnv scope X.env.globals cl [] X.env.qual none .none (some X.env)) (fun cenv s₄ =>
   codeAny (model X.prog X.w) X.A (.compStart (.ListComp elt [⟨tg,iter,ifs,0⟩] scope pos) 0 (.ref it) acc { cenv with scope:=relabel scope X.env }) (RR acc cenv.locals) s₄) E' s₃) E' s2:=by
 refine wpAny_newObj_type (sS ?_)
 have I3:=I2.lnew (ys:=[]) (its:=[]) (t':=s2.toks) .nil (Nat.zero_le _)
 have hD : H2 s2.heap.objs.size = none:=I2.fresh
 have fo : ∀ b∈fp,b < s2.heap.objs.size:=fun b hb=>by obtain ⟨o,e,_⟩:=T.obj _ _ st2 b hb; exact Heap.lt_size e
 have up : ∀ {b : Addr},b∈fp→upd H2 s2.heap.objs.size (.lst []) b = H2 b:=fun {b} hb=>aH (Nat.ne_of_lt (fo b hb))
 have f3 : ∀ b∈fp,FpOk X pins (upd H2 s2.heap.objs.size (.lst [])) b:=fun b hb=>⟨by rw [up hb]; exact (f2 b hb).1,(f2 b hb).2⟩
 have hsz : (s2.heap.push { cls:=.type "list",data:=.seq ([] : List Value).toArray }).objs.size = s2.heap.objs.size + 1:=by rw [Heap.size_push]
 generalize hs3 : ({ s2 with heap:=s2.heap.push { cls:=.type "list",data:=.seq ([] : List Value).toArray } } : Shared) = s3 at I3 ⊢
 have hh3 : s3.heap = s2.heap.push { cls:=.type "list",data:=.seq ([] : List Value).toArray }:=by rw [← hs3]
 have fo3 : ∀ b∈fp,b < s3.heap.objs.size:=fun b hb=>by rw [hh3,hsz]; exact Nat.lt_succ_of_lt (fo b hb)
 have hsz3 : (s3.heap.push { cls:=.type "dict",data:=.dict #[] }).objs.size = s3.heap.objs.size + 1:=Heap.size_push ..
 have hnew : ∀ x c,(cellsFrom (s3.heap.objs.size + 1) scope.names cl).lookup x = some c→cl.lookup x = some c∨(s3.heap.objs.size < c∧(pushCells (s3.heap.push { cls:=.type "dict",data:=.dict #[] }) scope.names).IsCell c none):=fun x c e=>by
  rw [← hsz3] at e
  rcases kU _ _ _ _ _ e with z | ⟨z1,z2⟩
  ·exact .inl z
  ·exact .inr ⟨by rw [hsz3] at z1; exact z1,z2⟩
 have hns₁:=(Heap.Ns.new s3.heap (.type "dict")).keeps (pushCells_keeps scope.names _)
 have keep : ∀ b o,s3.heap.get? b = some o→(pushCells (s3.heap.push { cls:=.type "dict",data:=.dict #[] }) scope.names).get? b = some o:=fun b o e=>pushCells_keeps _ _ b o (Heap.get?_push_of_some _ e)
 generalize hh1 : pushCells (s3.heap.push { cls:=.type "dict",data:=.dict #[] }) scope.names = h₁ at hnew hns₁ keep ⊢
 have IB : Inv (blk X NB scope (cellsFrom (s3.heap.objs.size + 1) scope.names cl) s3.heap.objs.size s3 (upd H2 s2.heap.objs.size (.lst [])) fp) [] (cSt src σ) (upd H2 s2.heap.objs.size (.lst [])) { s3 with heap:=h₁,toks:=s3.toks } :=
  aCK I3 S c1 c2 f3 fo3 hns₁ keep hnew
 have stB : tn 0 h₁:=T.keep 0 s2.heap h₁ st2 fun b hb o e=>keep b o (by rw [hh3]; exact Heap.get?_push_of_some _ e)
 have fB : ∀ b∈fp,FpOk (blk X NB scope (cellsFrom (s3.heap.objs.size + 1) scope.names cl) s3.heap.objs.size s3 (upd H2 s2.heap.objs.size (.lst [])) fp) [] (upd H2 s2.heap.objs.size (.lst [])) b:=fun b hb=>by
  refine ⟨(f3 b hb).1,Nat.ne_of_lt (fo3 b hb),fun z=>?_,.inl hb,fun x c e=>(IB.ok.exf b hb).2 x c e,fun p hp=>absurd (show p∈([] : List (Addr × Obj)) from hp) (by simp)⟩
  rcases List.mem_cons.mp (I3.stkSub b z) with e | e
  ·exact (f3 b hb).2.1 e
  ·exact (f3 b hb).2.2.1 e
 have loop : codeAny (model X.prog X.w) X.A (.compLoop (.ListComp elt [⟨tg,iter,ifs,0⟩] scope pos) 0 (.ref it) (.ref s2.heap.objs.size) (compEnvC scope (cellsFrom (s3.heap.objs.size + 1) scope.names cl) s3.heap.objs.size X.env)) (RR (.ref s2.heap.objs.size) s3.heap.objs.size)
   { s3 with heap:=h₁,toks:=s3.toks }:=by
  refine aAb (B:=blk X NB scope (cellsFrom (s3.heap.objs.size + 1) scope.names cl) s3.heap.objs.size s3 (upd H2 s2.heap.objs.size (.lst [])) fp) rfl hc T (hg _ _ _ _ _) (ht _ _ _ _ _) (he _ _ _ _ _) IB stB fB (hw _ hD) fun σ' H' s' J' q=>?_
  obtain ⟨m,hm,_⟩:=J'.loc
  exact hR _ _ H' s' (I3.fpOk (Nat.le_refl _) J'.free) (I3.unblk J' f3) ⟨m,hm⟩ q
 exact codeAny_compStart_list loop (T.self _ 0 _ _ _ stB loop)
theorem cC (S : eU NB src scope X) (hc : X.calm = true) (hi : PI X tg iter wi) (hg : ∀ cl C s₃ H₃ fp,PG (blk X NB scope cl C s₃ H₃ fp) tg g) (ht : ∀ cl C s₃ H₃ fp,PTs (blk X NB scope cl C s₃ H₃ fp) ifs tt)
  (he : ∀ cl C s₃ H₃ fp,PE (blk X NB scope cl C s₃ H₃ fp) elt te) (hs : ∀ x,foldedSetIterable iter X.env x = pure x:=by intro _; rfl) : PE X (.ListComp elt [⟨tg,iter,ifs,0⟩] scope pos) (xU src wi g tt te):=by
 intro pins s σ H Q I h
 obtain ⟨cl,hcl,c1,c2⟩:=jT I.ok S
 rw [eval_ListComp]
 refine wpAny_comprehension_free (use:=none) (cl:=cl) rfl hs hcl S.kind S.names (thn (hi pins s σ H _ I h) fun v s1 h1=>thn h1 fun itv s2 h2=>?_)
 obtain ⟨it,fp,tn,J,H2,e,I2,T,st2,f2,hw⟩:=h2
 subst e
 refine oF (RR:=fun acc C=>compPost (model X.prog X.w) X.A X.xe none (EP X pins σ Q) acc C) S hc c1 c2 hg ht he I2 T st2 f2 hw fun D C H' s' fC I' hm q=>?_
 obtain ⟨m,hm⟩:=hm
 refine ⟨m,hm,fun h' sb=>⟨.ref D,H',?_,rfl,q⟩⟩
 obtain ⟨g0,g1,_,g3,g4,g5⟩:=fC
 exact I'.turned (t':=s'.toks) (fun b o hb e=>(sb.2 b hb).trans e) g0 g1 g3 g4 g5
theorem fE {i : Nat} {y : Str} {py spos : Pos} (S : eU NB src scope X) (hc : X.calm = true) (hi : PI X tg iter wi) (hg : ∀ cl C s₃ H₃ fp,PG (blk X NB scope cl C s₃ H₃ fp) tg g) (ht : ∀ cl C s₃ H₃ fp,PTs (blk X NB scope cl C s₃ H₃ fp) ifs tt)
  (he : ∀ cl C s₃ H₃ fp,PE (blk X NB scope cl C s₃ H₃ fp) elt te) (hN : X.N.Nodup) (hix : X.N[i]? = some y) (hy : X.env.scope.names.lookup y = some .local)
  (hsw : swapsWith (.ListComp elt [⟨tg,iter,ifs,0⟩] scope pos) (some (.Name y py)) spos.line X.env = pure true) (hs : ∀ x,foldedSetIterable iter X.env x = pure x:=by intro _; rfl) :
  PS X (.Assign [.Name y py] (.ListComp elt [⟨tg,iter,ifs,0⟩] scope pos) spos) (tAsg (xU src wi g tt te) (bE i)):=by
 intro pins s σ H D0 I h
 obtain ⟨cl,hcl,c1,c2⟩:=jT I.ok S
 rw [exec_Assign_Name_used _ _ _ _ hsw]
 refine wpAny_bind (wpAny_standAt (wpAny_bind ?_))
 show wpAny _ X.A (do let _ ← comprehension (.ListComp elt [⟨tg,iter,ifs,0⟩] scope pos) scope X.env _ (newList []) false (eval iter X.env) (some (assign (.Name y py) X.env))) _ _ s
 refine wpAny_bind (wpAny_mono (wpAny_comprehension_free (use:=some (assign (.Name y py) X.env)) (Q:=fun _ s'=>SP X pins D0 .next s') (cl:=cl) rfl hs hcl S.kind S.names
  (thn (hi pins s σ H _ I h) fun v s1 h1=>thn h1 fun itv s2 h2=>?_)) (fun _ s' hq=>wpAny_pure (wpAny_pure hq)) fun _ _ e=>e)
 obtain ⟨it,fp,tn,J,H2,e,I2,T,st2,f2,hw⟩:=h2
 subst e
 refine oF (RR:=fun acc C=>compPost (model X.prog X.w) X.A X.xe (some (assign (.Name y py) X.env)) (fun _ s'=>SP X pins D0 .next s') acc C) S hc c1 c2 hg ht he I2 T st2 f2 hw fun D C H' s' fC I' hm q=>?_
 obtain ⟨m,hm⟩:=hm
 obtain ⟨g0,g1,_,g3,g4,g5⟩:=fC
 show wpAny _ X.A (assign (.Name y py) X.env (.ref D)) _ _ _
 refine wpAny_assign_Name (iN I' hN hix (.inl hy) (v:=.ref D) rfl (fun s'' I'' sb=>?_) (.inr hy))
 obtain ⟨a,sb,ha⟩:=sb
 have hne : C ≠ a:=by
  rcases ha with z | z
  ·rw [z]; exact g1
  ·exact fun z'=>g4 y a z z'.symm
 refine ⟨m,hm.sameBut sb hne,fun h' sb'=>⟨_,H',I''.turned (t':=s''.toks) (fun b o hb e=>(sb'.2 b hb).trans e) g0 g1 g3 g4 g5,q⟩⟩
end
end L2
namespace L2
open PySem PySem.Spec PyProof.Rows
structure xV (P : Program) (w : World) (outer : List Env) (H : Hp) (s : Shared) (B : Heap) (p : Addr) (C a0 : Value) (H' : Hp) (s' : Shared) : Prop where
 os : s'.os = s.os
 bare : AllBare s'.gens
 hok : HOk P w H' B
 keep : ∀ b o,s.heap.get? b = some o→H b = none→b ∉ frs outer→B.get? b = some o∧H' b = none
 frame : ∀ b o,s.heap.get? b = some o→H b = none→b∈frs outer→(∃ sl,s'.heap.get? b = some { o with slots:=sl })∧H' b = none
 there : ∀ b o,s.heap.get? b = some o→H b ≠ none→∃ o',B.get? b = some o'
 tups : ∀ b xs,H b = some (.tup xs)→H' b = some (.tup xs)
 frzs : ∀ b o u,H b = some (.frz o u)→H' b = some (.frz o u)
 tbls : ∀ b ps,H b = some (.tbl ps)→∃ more,H' b = some (.tbl (ps ++ more))
 fl : Heap.FlyingW B outer p C a0 s'.heap
def CXf (P : Program) (w : World) : CXT:=fun outer H s E e s'=>∃ p C a0 B H',e = .ref p∧xV P w outer H s B p C a0 H' s'∧E C none H'
section
variable {P : Program} {w : World} {K : W.Frag} {mg : Str→Option Value} {base : Heap} {N : List Str} {qual : Str} {scope : Scope} {f : Addr} {cd : Value} {A : Around} {outer : List Env} {s : Shared} {H : Hp} {E : XK}
abbrev hid (h : Heap) (l : List Env) : Heap:=W.hideAll h (frs l)
theorem aCL {l : List Env} {H1 : Hp} {h : Heap} (ok : HOk P w H1 h) (nf : ∀ b∈frs l,H1 b = none) : HOk P w H1 (hid h l):=fun a o e=>by
 refine (ok a o e).stay (fun b u hb q=>W.hideAll_get _ q fun z=>?_) (fun _ q=>q) fun _ _ q=>q
 have n:=nf b z
 rcases hb with rfl | hb
 ·rw [n] at e; cases e
 ·rw [n] at hb; cases hb
theorem jU {pins : List (Addr × Obj)} {σ : St} {H1 : Hp} {s1 : Shared} {h' : Heap} {e : Addr} {C : Value} {vs : List Value}
  (I : Inv (cxOf (CXf P w) P w K mg base N qual scope f cd A outer s H E) pins σ H1 s1) (hx : Heap.MadeExcOf s1.heap h' e C vs) (q : E C none H1) :
  (cxOf (CXf P w) P w K mg base N qual scope f cd A outer s H E).xe (.ref e) { s1 with heap:=h' }:=by
 have stk : frs (envOfC qual scope s.heap.objs.size f cd :: outer) = s.heap.objs.size :: frs outer:=rfl
 have hfun:=I.stack
 refine wpAny_leaves_madeW (base:=hid s1.heap (envOfC qual scope s.heap.objs.size f cd :: outer)) (h:=s1.heap) (L:=s.heap.objs.size) I.ok.frames rfl (fun b o z=>W.of_hideAll _ z)
  (W.funFrames_hide hfun fun env he b hb=>List.mem_filterMap.mpr ⟨env,he,hb⟩) hx fun h2 t x1 x2 x3 x4=>?_
 have inB : ∀ b o,s1.heap.get? b = some o→b ∉ frs outer→b < s.heap.objs.size→(hid s1.heap (envOfC qual scope s.heap.objs.size f cd :: outer)).get? b = some o:=fun b o z hb hlt =>
  W.hideAll_get _ z fun m=>by
   rw [stk] at m
   rcases List.mem_cons.mp m with z' | z'
   ·exact absurd hlt (by rw [z']; exact Nat.lt_irrefl _)
   ·exact hb z'
 refine ⟨e,C,.ref t,_,H1,rfl,⟨I.os,I.bare,aCL I.hok I.stkFree,fun b o z n hb=>⟨inB b o (I.base.keep b o z n hb (by intro m; exact absurd (show b∈([] : List Addr) from m) (by simp))) hb (Heap.lt_size z),I.base.free b o z n (by intro m; exact absurd (show b∈([] : List Addr) from m) (by simp))⟩,
  fun b o z n hb=>⟨?_,I.base.free b o z n (by intro m; exact absurd (show b∈([] : List Addr) from m) (by simp))⟩,fun b o z n=>?_,I.base.tups,I.base.frzs,I.base.tbls,x1⟩,q⟩
 ·obtain ⟨sl,z1⟩:=I.base.slot b o z n hb (by intro m; exact absurd (show b∈([] : List Addr) from m) (by simp))
  obtain ⟨_,o',ho',nd⟩:=I.ok.funs.mem hb
  have e' : o' = o:=Option.some.inj (ho'.symm.trans z)
  subst e'
  obtain ⟨sl2,z2⟩:=x4 b _ (hx.keeps _ _ z1) nd
  exact ⟨sl2,z2⟩
 ·have nfr : b ∉ frs (envOfC qual scope s.heap.objs.size f cd :: outer):=fun m=>by
   rw [stk] at m
   rcases List.mem_cons.mp m with z' | z'
   ·exact absurd (Heap.lt_size z) (by rw [z']; exact Nat.lt_irrefl _)
   ·exact n (I.ok.frf b z')
  obtain ⟨o',z1⟩:=I.base.there b o z (by intro m; exact absurd (show b∈([] : List Addr) from m) (by simp))
  exact ⟨o',W.hideAll_get _ z1 nfr⟩
theorem oG {E' : XK} (hE : ∀ C d H',E' C d H'→E C d H') : dO (CXf P w) (cxOf (CXf P w) P w K mg base N qual scope f cd A outer s H E) E':=by
 intro pins σ H1 s1 e s' I h
 obtain ⟨p,C,a0,B,H',rfl,F,q⟩:=h
 have stk : frs (envOfC qual scope s.heap.objs.size f cd :: outer) = s.heap.objs.size :: frs outer:=rfl
 have noex : ∀ b : Addr,b ∉ (cxOf (CXf P w) P w K mg base N qual scope f cd A outer s H E).ex:=fun b m=>absurd (show b∈([] : List Addr) from m) (by simp)
 have nst : ∀ b o,s.heap.get? b = some o→b ∉ frs outer→b ∉ frs (cxOf (CXf P w) P w K mg base N qual scope f cd A outer s H E).stack:=fun b o z hb m=>by
  have m' : b∈s.heap.objs.size :: frs outer:=m
  rcases List.mem_cons.mp m' with z' | z'
  ·exact absurd (Heap.lt_size z) (by rw [z']; exact Nat.lt_irrefl _)
  ·exact hb z'
 show wpAny _ _ (leaving (envOfC qual scope s.heap.objs.size f cd) (.ref p)) _ _ s'
 refine wpAny_leaves_onW (outer:=outer) (L:=s.heap.objs.size) I.ok.frames rfl F.fl fun h2 x1 x2=>?_
 refine ⟨p,C,a0,B,H',rfl,⟨F.os.trans I.os,F.bare,F.hok,fun b o z n hb=>?_,fun b o z n hb=>?_,fun b o z n=>?_,fun b xs z=>F.tups b xs (I.base.tups b xs z),fun b o u z=>F.frzs b o u (I.base.frzs b o u z),fun b ps z=>?_,x1⟩,hE _ _ _ q⟩
 ·exact F.keep b o (I.base.keep b o z n hb (noex b)) (I.base.free b o z n (noex b)) (nst b o z hb)
 ·obtain ⟨sl,z1⟩:=I.base.slot b o z n hb (noex b)
  have hb' : b∈frs (cxOf (CXf P w) P w K mg base N qual scope f cd A outer s H E).stack:=List.mem_cons_of_mem _ hb
  obtain ⟨⟨sl2,z2⟩,n2⟩:=F.frame b _ z1 (I.base.free b o z n (noex b)) hb'
  obtain ⟨_,o',ho',nd⟩:=I.ok.funs.mem hb
  have e' : o' = o:=Option.some.inj (ho'.symm.trans z)
  subst e'
  obtain ⟨sl3,z3⟩:=x2 b _ z2 nd
  exact ⟨⟨sl3,z3⟩,n2⟩
 ·obtain ⟨o',z1⟩:=I.base.there b o z (noex b)
  have hno : b ∉ frs outer:=fun m=>n (I.ok.frf b m)
  cases n1 : H1 b with
  | none=>exact ⟨o',(F.keep b o' z1 n1 (nst b o z hno)).1⟩
  | some u=>exact F.there b o' z1 (by rw [n1]; intro z'; cases z')
 ·obtain ⟨m1,z1⟩:=I.base.tbls b ps z
  obtain ⟨m2,z2⟩:=F.tbls b _ z1
  exact ⟨m1 ++ m2,by rw [z2,Array.append_assoc]⟩
theorem ownX : PassesOwn (model P w) (cxOf (CXf P w) P w K mg base N qual scope f cd A outer s H E).A (cxOf (CXf P w) P w K mg base N qual scope f cd A outer s H E).env (cxOf (CXf P w) P w K mg base N qual scope f cd A outer s H E).xe:=by
 intro e s' h
 exact PassesOwn.leaving (M:=model P w) (A:=A.deeper (envOfC qual scope s.heap.objs.size f cd)) (env:=envOfC qual scope s.heap.objs.size f cd) (Q₁:=fun e s''=>CXf P w outer H s E e s'') (E₁:=fun e' s''=>CXf P w outer H s E e' s'') e s' h
end
theorem oH {P : Program} {w : World} {X : Cx} : dO (CXf P w) X E0:=fun _ _ _ _ _ _ _ h=>by
 obtain ⟨_,_,_,_,_,_,_,q⟩:=h
 exact q.elim
end L2
namespace L2
open PySem PySem.Spec PyProof.Rows PySem.W
abbrev bmV : List Value:=[.type "ValueError",.type "Exception",.type "BaseException",.type "object"]
structure ECls (K : W.Frag) (C : Addr) : Prop where
 ex : W.excIn K C bmV "ValueError.__new__" = true
 kp : W.keepIn K (.ref C) = true
 ga : W.findIn K (.ref C) "__getattribute__" = some (some (.builtin "BaseException.__getattribute__"))
 gt : W.findIn K (.ref C) "__getattr__" = some none
 cl : W.findIn K (.ref C) "__class__" = some (some (.builtin "object.__class__"))
 mo : W.mroIn K C (.type "object") = some true
 mb : W.mroIn K C (.type "BaseException") = some true
 ty : (W.clsIn K C).isSome = true
theorem sT {K : W.Frag} {h : Heap} {C : Addr} {bmB : List Value} {newId : String} (X : K.In h) (q : W.excIn K C bmB newId = true) :
  ∃ bm N nm qn bs hdct sn sub ab col dd k0 k1 k2 k3 k5 mN,h.get? C = some (excClassObj nm qn C N bs bm hdct sn sub ab col dd k0 k1 k2 k3 k5 newId)∧h.Ns N mN∧mN "__init__" = none∧OwnTail h bmB bm:=by
 unfold W.excIn at q
 split at q
 ·rename_i dd cd sl ho
  split at q
  ·rename_i C' bm k0 k1 k2 k3 n k5 hm hs
   simp only [Bool.and_eq_true,beq_iff_eq,Bool.not_eq_true'] at q
   obtain ⟨⟨⟨⟨⟨rfl,rfl⟩,hdel⟩,ht⟩,hok⟩,hni⟩:=q
   obtain ⟨nm,bs,mro,ns,qn,hd,sn,sub,ab,col,del⟩:=cd
   dsimp only at hm hdel hok hni
   subst hm hdel
   have hsl : sl = #[k0,k1,k2,k3,some (.builtin n),k5]:=by
    obtain ⟨l⟩:=sl
    simp only at hs
    rw [hs]
   subst hsl
   exact ⟨bm,ns,nm,qn,bs,hd,sn,sub,ab,col,dd,k0,k1,k2,k3,k5,_,X _ _ ho,.of_isNs (isNs_of_in X hok),nsMap_none_of_in X hok hni,tail_of_in X ht⟩
  ·cases q
 ·cases q
def IsX (p : Addr) (C : Value) (h : Heap) : Prop:=∃ o,h.get? p = some o∧o.cls = C
abbrev excO (p : Addr) (C : Value) : HO:=.ext (IsX p C)
theorem IsX.ok {P : Program} {w : World} {H : Hp} {h : Heap} {p : Addr} {C : Value} (x : IsX p C h) : bN P w H h p (excO p C) :=
 ⟨x,(let ⟨o,e,_⟩:=x; ⟨o,e⟩),fun h1 h2 ⟨o,e,r⟩ k=>⟨o,k o e,r⟩⟩
theorem bN.get {P : Program} {w : World} {H : Hp} {h : Heap} {a : Addr} {o : HO} (x : bN P w H h a o) : ∃ u,h.get? a = some u:=by
 cases o with
 | lst xs=>obtain ⟨_,_,_,_,e⟩:=x; exact ⟨_,e⟩
 | tup xs=>obtain ⟨_,_,_,ob,e,_⟩:=x; exact ⟨_,e⟩
 | dK kvs=>obtain ⟨_,_,_,_,o,_,_,e,_⟩:=x; exact ⟨_,e⟩
 | dT kvs=>obtain ⟨_,_,_,_,o,_,_,e,_⟩:=x; exact ⟨_,e⟩
 | set S n=>obtain ⟨o,_,_,_,e,_⟩:=x; exact ⟨_,e⟩
 | ins C dx fs=>obtain ⟨_,_,_,e,_⟩:=x; exact ⟨_,e⟩
 | own y=>exact x
 | xd fs=>obtain ⟨_,⟨_,_,_,e,_⟩,_⟩:=x; exact ⟨_,e⟩
 | rng lo hi=>obtain ⟨_,_,_,e⟩:=x; exact ⟨_,e⟩
 | frz ob u=>obtain ⟨e,_⟩:=x; exact ⟨_,e⟩
 | tbl ps=>exact ⟨_,(show h.get? a = some _ from x)⟩
 | met f y=>exact ⟨_,(show h.get? a = some _ from x)⟩
 | ext φ=>exact x.2.1
theorem HOk.freshN {P : Program} {w : World} {H : Hp} {h : Heap} {a : Addr} (x : HOk P w H h) (e : h.get? a = none) : H a = none:=by
 cases q : H a with
 | none=>rfl
 | some u=>obtain ⟨o,z⟩:=(x a u q).get; rw [e] at z; cases z
theorem Inv.laidN {X : Cx} {pins : List (Addr × Obj)} {σ : St} {H : Hp} {s : Shared} {h' : Heap} {a : Addr} {o : HO} {t' : Nat} (I : Inv X pins σ H s) (k : ∀ b u,s.heap.get? b = some u→h'.get? b = some u) (hp : s.heap.get? a = none) (new : bN X.prog X.w (upd H a o) h' a o) :
  Inv X pins σ (upd H a o) { s with heap:=h',toks:=t' }:=by
 have hn:=I.hok.freshN hp
 have ne : ∀ b u,s.heap.get? b = some u→b ≠ a:=fun b u e z=>by rw [z,hp] at e; cases e
 refine I.un ⟨fun b u e _ _ _=>k b u e,fun b u e _ _ _=>⟨u.slots,k b u e⟩,fun b u e n _=>by rw [aH (ne b u e)]; exact n,fun b u e _=>⟨u,k b u e⟩,fun b xs e=>by rw [aH (aJ e hn)]; exact e,fun b u v e=>by rw [aH (aJ e hn)]; exact e,fun b ps e=>⟨#[],by rw [aH (aJ e hn),e]; simp⟩⟩ fun b u e=>?_
 by_cases hb : b = a
 ·subst hb; rw [aD] at e; cases e; exact new
 ·rw [aH hb] at e
  exact (I.hok b u e).stay (fun c v _ q=>k c v q) (fun c q=>by rw [aH (aJ q hn)]; exact q) fun c xs q=>by rw [aH (aJ q hn)]; exact q
section
variable {prog : Program} {w : World} {A : Around} {E : Value→Shared→Prop} {s : Shared} {K : W.Frag} {x C : Addr} {ox : Obj}
theorem vU {M : Model} {h : Heap} (hx : h.get? x = some ox) (hc : ox.cls = .ref C) : W.Looks M h (typeOf (.ref x)) (.ref C):=hc ▸ (W.Looks.ld hx).andThen .now
open Builtin Builtin.ObjectAttr Builtin.Getset_descriptor in
theorem xW {tp : Value} {R : Result→Shared→Prop} (X : K.In s.heap) (hx : s.heap.get? x = some ox) (hc : ox.cls = .ref C) (hm : W.mroIn K C (.type "object") = some true)
  (h : R (.ok (.ret (.ref C))) s) : codeAny (model prog w) A (.call (.builtin "getset_descriptor.__get__") ⟨[.builtin "object.__class__",.ref x,tp],[]⟩) R s:=by
 obtain ⟨hh,g,dr,t,os⟩:=s
 have L0:=vU (M:=model prog w) hx hc
 have L1:=looks_mroIn (M:=model prog w) X hm
 refine codeAny_call_builtin KF.slot_gs.plain KF.entry_gs (KF.slot_gs.check _ _ _ _ _ _ _ _ KF.type_class (KF.args_gs _ _ _) ?_)
 unfold Builtin.«getset_descriptor.__get__» descrGet
 rw [dga_obj]
 refine wpAny_bind (wpAny_pure ?_)
 unfold descrGetter descrCheckInstance descrNameAndClass isInstance
 simp only [KF.owner_class]
 repeat lk
 refine ⟨Code.quiet_builtin _ (by decide +kernel),codeAny_builtin KF.entry_class ?_⟩
 unfold Builtin.«object.__class__» shownTypeOf
 repeat lk
 exact h
theorem vB {M : Model} {D : Addr} {b : Bool} {Q : Bool→Shared→Prop} {h : Heap} {g d t os} (X : K.In h) (TD : ECls K D) (hx : h.get? x = some ox) (hc : ox.cls = .ref C) (sub : W.subIn K (.ref C) (.ref D) = some b) (hq : Q b ⟨h,g,d,t,os⟩) :
  wpAny M A (excMatches (.ref x) (.ref D)) Q E ⟨h,g,d,t,os⟩:=by
 obtain ⟨bm,N,nm,qn,bs,hdct,sn,sub',ab,col,dd,k0,k1,k2,k3,k5,mN,hC,hN,hni,TL⟩:=sT X TD.ex
 have hcB : (Value.ref D :: bm).contains (.type "BaseException") = true:=by rw [List.contains_cons,TL.hasType PySem.F.excBase_ValueError.hasBase,Bool.or_true]
 have L1:=looks_subIn (M:=M) X sub
 have f:=tc_notTuple
 unfold excMatches
 repeat (first | (with_reducible refine wpAny_loadPart_at hx ?_; rw [hc]) | with_reducible refine wpAny_loadPart_at hC ?_ | with_reducible refine L1.at ?_ | (with_reducible refine wpAny_isSubtype_exc hC ?_; rw [hcB]) | wp_step)
 cases b
 ·repeat (first | exact hq | wp_step)
 ·repeat (first | exact hq | wp_step)
theorem aAc {tk : Tok} {Q : Fin→Shared→Prop} {h : Heap} {g d t os} (T : ECls K C) (X : K.In h) (hx : h.get? x = some ox) (hc : ox.cls = .ref C) (hq : Q (.done (.ret (.ref C))) ⟨h,g,d,t,os⟩) :
  wpAny (model prog w) A (Builtin.«object.__getattribute__» ⟨[.ref x,.str "__class__" tk],[]⟩) Q E ⟨h,g,d,t,os⟩:=by
 have f5:=F.typeOf_bexc_args
 have hT5 : (⟨h,g,d,t,os⟩ : Shared).TypeIs (.builtin "object.__class__") "getset_descriptor" := PySem.F.typeOf_object_class
 have f5':=PySem.F.typeOf_object_class
 have f6:=F.slot_gs_get.lookup
 have f7:=F.slot_gs_set.lookup
 have L1:=looks_findIn (M:=model prog w) X T.cl
 repeat (any_goals (first | assumption | (with_reducible refine wpAny_loadPart_at hx ?_; rw [hc]) | with_reducible refine L1.at ?_ | wp_step))
 refine xW (s:=⟨h,g,d,t,os⟩) X hx hc T.mo ?_
 repeat (any_goals (first | assumption | wp_step))
theorem aAd {M : Model} {nameV : Value} {Q : Unit→Shared→Prop} {h : Heap} {g d t os} (T : ECls K C) (X : K.In h) (hx : h.get? x = some ox) (hc : ox.cls = .ref C) (hq : Q () ⟨h,g,d,t,os⟩) :
  wpAny M A (checkBuiltinCall "BaseException.__getattribute__" ⟨[.ref x,nameV],[]⟩) Q E ⟨h,g,d,t,os⟩:=by
 have hk : builtinKind "BaseException.__getattribute__" = some .slot:=by decide +kernel
 have hsplit : splitId "BaseException.__getattribute__" = some ("BaseException", "__getattribute__"):=by decide +kernel
 have ha:=F.args_bexc_ga (.ref x) nameV
 have L1:=looks_mroIn (M:=M) X T.mb
 simp only [checkBuiltinCall,hk,hsplit]
 refine wpAny_bind ?_
 ·unfold isInstance
  repeat (first | (with_reducible refine wpAny_loadPart_at hx ?_; rw [hc]) | with_reducible refine L1.at ?_ | wp_step)
  exact hq
theorem aDS {tk : Tok} {fill expr : Bool} {Q : Value→Shared→Prop} {h : Heap} {g d t os} (T : ECls K C) (X : K.In h) (hx : h.get? x = some ox) (hc : ox.cls = .ref C) (hq : Q (.ref C) ⟨h,g,d,t,os⟩) :
  wpAny (model prog w) A (getAttrBy (.ref x) (.str "__class__" tk) fill expr) Q E ⟨h,g,d,t,os⟩:=by
 have f3:=F.attr_ValueError.ga.bind (.ref x)
 have hx0 : (expr && onTheHeap (Value.builtin "BaseException.__getattribute__")) = false:=by cases expr <;> rfl
 have hx2 : (Value.builtin "BaseException.__getattribute__" == Value.builtin "object.__getattribute__") = false:=by decide +kernel
 have hx1 : (onTheHeap (Value.ref C) && Value.builtin "BaseException.__getattribute__" == Value.builtin "object.__getattribute__") = false:=by rw [hx2]; rfl
 have L1:=looks_findIn (M:=model prog w) X T.ga
 have L2:=looks_findIn (M:=model prog w) X T.gt
 repeat (any_goals (first | assumption | (with_reducible refine wpAny_loadPart_at hx ?_; rw [hc]) | with_reducible refine L1.at ?_ | with_reducible refine L2.at ?_ | wp_step))
 refine codeAny_call_builtin F.attr_ValueError.ga.plain F.entry_bexc_ga (aAd T X hx hc (aAc T X hx hc ?_))
 repeat (any_goals (first | assumption | wp_step))
theorem aBy {Q : Option Value→Shared→Prop} {h : Heap} {g d t os} (T : ECls K C) (X : K.In h) (hx : h.get? x = some ox) (hc : ox.cls = .ref C) (hq : Q (some (.ref C)) ⟨h,g,d,t + 1,os⟩) :
  wpAny (model prog w) A (getAttr? (.ref x) "__class__") Q E ⟨h,g,d,t,os⟩:=by
 unfold getAttr?
 repeat (any_goals (first | assumption | with_reducible apply aDS T X hx hc | wp_step))
theorem mY (T : ECls K C) : W.KitX K (.ref x) (.ref C) (IsX x (.ref C)) where
 ty:=fun _ _ _ ⟨o,e,c⟩=>vU e c
 it:=fun _ _ X _=>by
  obtain ⟨cdD,hcD⟩:=Option.isSome_iff_exists.mp T.ty
  unfold clsIn at hcD
  split at hcD
  ·rename_i c' d' cd' sl' ho
   intro A' Q' E' s' k q
   unfold isType loadHead
   exact wpAny_bind (wpAny_loadPart (k _ _ (X _ _ ho)) (wpAny_pure q))
  ·cases hcD
 ne:=fun h tp dd its n sl X htp=>by
  obtain ⟨cdD,hcD⟩:=Option.isSome_iff_exists.mp T.ty
  refine Bool.eq_false_iff.mpr fun q=>?_
  have e : C = tp:=Value.ref.inj (beq_iff_eq.mp q)
  subst e
  unfold clsIn at hcD
  split at hcD
  ·rename_i c' d' cd' sl' ho
   have z:=(X _ _ ho).symm.trans htp
   cases z
  ·cases hcD
 ca:=fun {_ _ _ _ _ s} X ⟨o,e,c⟩ k=>by
  obtain ⟨h,g,d,t,os⟩:=s
  exact aBy T X e c k
end
section
variable {X : Cx}
inductive TyX (K : W.Frag) (H : Hp) : V→Value→Prop where
 | of {v : V} {t : Value} (h : TyOf K H v t) : TyX K H v t
 | exc {p C : Addr} (T : ECls K C) (e : H p = some (excO p (.ref C))) : TyX K H (.ref p) (.ref C)
def rIsi (K : W.Frag) : List V→Hp→VK→Prop:=fun xs H Q=>∃ x c cv t b,xs = [x,c]∧(c = .ty cv∧W.kitOne K t (.type cv) = some b)∧TyX K H x t∧Q (.bl b) H
theorem dD : cK X (.builtin "isinstance") (rIsi X.K):=by
 intro pins s σ H xs us Q I r h
 obtain ⟨x,c,cv,t,b,rfl,⟨rfl,e⟩,ty,q⟩:=h
 obtain ⟨u1,u2,rfl,r1,r2⟩:=r.two
 obtain rfl : u2 = Value.type cv:=r2
 cases ty with
 | of ty=>exact qS I r1 ty e fun tk=>⟨.bl b,H,I.tok tk,rfl,q⟩
 | @exc p C T ea =>
  obtain rfl : u1 = Value.ref p:=r1
  have p1 : IsX p (.ref C) s.heap:=(I.hok p _ ea).1
  exact W.kia_one (mY T) I.kIn p1 e (fun z=>nomatch z) fun tk=>⟨.bl b,H,I.tok tk,rfl,q⟩
def aEz (K : W.Frag) : List V→Hp→VK→Prop:=fun xs H Q=>∃ x c t b,xs = [x,.ref c]∧W.kitOne K t (.ref c) = some b∧TyX K H x t∧Q (.bl b) H
theorem aAe : cK X (.builtin "isinstance") (aEz X.K):=by
 intro pins s σ H xs us Q I r h
 obtain ⟨x,c,t,b,rfl,e,ty,q⟩:=h
 obtain ⟨u1,u2,rfl,r1,r2⟩:=r.two
 obtain rfl : u2 = Value.ref c:=r2
 cases ty with
 | of ty=>exact qS I r1 ty e fun tk=>⟨.bl b,H,I.tok tk,rfl,q⟩
 | @exc p C T ea =>
  obtain rfl : u1 = Value.ref p:=r1
  have p1 : IsX p (.ref C) s.heap:=(I.hok p _ ea).1
  exact W.kia_one (mY T) I.kIn p1 e (fun z=>nomatch z) fun tk=>⟨.bl b,H,I.tok tk,rfl,q⟩
end
section
variable {X : Cx} {x : Str} {C : Addr} {np cpos pos : Pos} {e : Expr} {es : List Expr} {t : TA}
def aDT (q : Hp→Prop) (t : TA) : TS:=fun _ σ H=>t σ H fun vs H1=>vs.length ≤ sizeLine∧q H1
theorem jV {q : Hp→Prop} (hc : X.calm = true) (T : ECls X.K C) (hg : Gl X x) (hm : X.mg x = some (.ref C)) (ha : PA X (e :: es) t)
  (hxe : ∀ (pins : List (Addr × Obj)) (σ : St) (H1 : Hp) (s1 : Shared) (h' : Heap) (p : Addr) (vs : List Value),Inv X pins σ H1 s1→Heap.MadeExcOf s1.heap h' p (.ref C) vs→q H1→X.xe (.ref p) { s1 with heap:=h' })
  (hdb : (x == ("__debug__" : Str)) = false:=by decide) (he : starEach (e :: es) X.env = (false,eval e X.env) :: starEach es X.env:=by rfl) (hpl : (backTo cpos (starEach (e :: es) X.env)).any (·.1) = false:=by rfl) :
  PS X (.Raise (some (.Call (.Name x np) (e :: es) [] cpos)) none pos) (aDT q t):=by
 intro pins s σ H D I h
 obtain ⟨bm,N,nm,qn,bs,hdct,sn,sub,ab,col,dd,k0,k1,k2,k3,k5,mN,hC,hN,hni,TL⟩:=sT I.ok.mod.kin T.ex
 refine wpAny_Raise_call_subT (C:=C) (nm:=nm) (q:=qn) (N:=N) (bs:=bs) (bm:=bm) (hdct:=hdct) (sn:=sn) (sub:=sub) (ab:=ab) (col:=col) (dd:=dd) (k0:=k0) (k1:=k1) (k2:=k2) (k3:=k3) (k5:=k5)
  PySem.F.excBase_ValueError (mN:=mN) (TL.hasType PySem.F.excBase_ValueError.hasBase) (I.ok.hd hc) hpl hni (gY I hg hm ⟨rfl,?_⟩ hdb)
 have h1:=ha cpos pins s σ H _ I h
 rw [he] at h1 ⊢
 exact Calls.evalArgs_plain (wpAny_mono h1 (fun us s2 ⟨vs,H2,I2,r,hl,z⟩=>⟨rfl,(by show us.length ≤ sizeLine; rw [← r.length]; exact hl),I2.bk _ _ hC,hN.keeps I2.bk,TL.keeps I2.bk,fun h' p m=>hxe pins σ H2 s2 h' p us I2 m z⟩) fun _ _ y=>y)
end
end L2
namespace L2
open PySem PySem.Spec PyProof.Rows
def jC (CX : CXT) (X : Cx) (E : St→XK) : Prop:=∀ (pins : List (Addr × Obj)) (σ : St) (H : Hp) (s : Shared) (e : Value) (s' : Shared),Inv X pins σ H s→CX X.stack H s (E σ) e s'→X.xe e s'
def sU (sp : Sp) (dvs : List V) (E : St→XK) (t : TA) : TE:=fun σ H Q=>t σ H fun vs H1=>sp (vs ++ dvs) H1 Q (E σ)
section
variable {X : Cx} {CX : CXT} {k : Nat} {f C : Addr} {fd : FuncData} {ps : List Str} {sp : Sp} {dvs : List V} {ds : List Value} {E : St→XK} {x m : Str} {p pos apos : Pos} {e o : Expr} {es : List Expr} {ta : TE} {t : TA}
theorem aCM {pins : List (Addr × Obj)} {σ : St} {H : Hp} {s : Shared} {Q : VK} {us : List Value} {vs : List V} (F : FnOk X.prog X.w X.K X.mg X.base CX k f fd ps sp) (hr : Room k X.A) (hb : dE X.K fd ps ds) (hd : Vals dvs ds) (hx : jC CX X E)
  (I : Inv X pins σ H s) (r : Vals vs us) (h : sp (vs ++ dvs) H Q (E σ)) : wpAny (model X.prog X.w) X.A (call (.ref f) us) (EP X pins σ Q) X.xe s:=by
 have r2 : Vals (vs ++ dvs) (us ++ ds):=r.append hd
 have hl : (us ++ ds).length = ps.length:=by rw [← r2.length]; exact F.len _ _ _ _ h
 refine wpAny_call (codeAny_mono (F.run X.A X.stack s H ⟨us,[]⟩ (us ++ ds) (vs ++ dvs) Q (E σ) hr I.env0 (hb s us I.kIn hl) r2 h) fun r s' hq=>?_)
 cases r with
 | error e=>exact hx pins σ H s e s' I hq
 | ok fl =>
  cases fl with
  | ret u=>exact I.after hq
  | next=>exact False.elim hq
  | brk=>exact False.elim hq
  | cont=>exact False.elim hq
theorem aBz (F : FnOk X.prog X.w X.K X.mg X.base CX k f fd ps sp) (hr : Room k X.A) (hg : Gl X x) (hm : X.mg x = some (.ref f)) (hk : W.keepIn X.K (.ref f) = true) (hb : dE X.K fd ps ds) (hd : Vals dvs ds) (hx : jC CX X E)
  (ha : PA X (e :: es) t) (hdb : (x == ("__debug__" : Str)) = false:=by decide) (he : starEach (e :: es) X.env = (false,eval e X.env) :: starEach es X.env:=by rfl) (hpl : (backTo pos (starEach es X.env)).any (·.1) = false:=by rfl) :
  PE X (.Call (.Name x p) (e :: es) [] pos) (sU sp dvs E t):=by
 intro pins s σ H Q I h
 refine wpAny_Call_Name_kw (gY I hg hm ?_ hdb)
 refine W.callWith_K (h₀:=X.base) I.ok.mod.kin hk (thn (ha pos pins s σ H _ I h) fun us s1 ⟨vs,H1,I1,r,q⟩=>⟨I1.kIn,?_⟩) he hpl
 exact aCM F hr hb hd hx I1 r q
end
structure gD (k : Nat) (A : Around) : Prop where
 dp : A.depth + 3 * k + 5 < recursionLimit
 un : A.units + 16 * k + 200 < cLine
theorem gD.deeper {k : Nat} {A : Around} (r : gD (k + 1) A) (env : Env) : gD k (A.deeper env) :=
 ⟨by have:=r.dp; show A.depth + 1 + 3 * k + 5 < _; omega,by have:=r.un; show A.units + 3 + 16 * k + 200 < _; omega⟩
theorem gD.depth {k : Nat} {A : Around} (r : gD k A) : A.depth < recursionLimit:=by have:=r.dp; omega
structure lR (P : Program) (w : World) (K : W.Frag) (mg : Str→Option Value) (base : Heap) (CX : CXT) (k : Nat) (f : Addr) (fd : FuncData) (ps : List Str) (sp : Sp) : Prop where
 len : ∀ vs H Q E,sp vs H Q E→vs.length = ps.length
 run : ∀ (A : Around) (outer : List Env) (s : Shared) (H : Hp) (args : Args) (us : List Value) (vs : List V) (Q : VK) (E : XK),gD k A→Env0 P w K mg base A outer s H→BindsTo s fd args (ps.zip us)→Vals vs us→sp vs H Q E →
  codeAny (model P w) A (.call (.ref f) args) (CR CX outer P w H s Q E) s
def lS (CX : CXT) (P : Program) (w : World) (K : W.Frag) (mg : Str→Option Value) (base : Heap) (N : List Str) (qual : Str) (scope : Scope) (f : Addr) (cd : Value) (A : Around) (outer : List Env) (s : Shared) (H : Hp) (E : XK) : Cx :=
 { cxOf CX P w K mg base N qual scope f cd A outer s H E with calm:=false }
theorem xX {CX : CXT} {P : Program} {w : World} {K : W.Frag} {mg : Str→Option Value} {base : Heap} {N ps : List Str} {qual : Str} {scope : Scope} {f : Addr} {cd : Value} {A : Around} {outer : List Env} {s s1 : Shared} {H : Hp} {E : XK} {us : List Value} {vs : List V}
  (S : aM N ps scope) (e0 : Env0 P w K mg base A outer s H) (hl : vs.length = ps.length) (r : Vals vs us)
  (x : InCallC s s.heap.objs.size (bindL (envOfC qual scope s.heap.objs.size f cd).kindOf (ps.zip us) fun _=>none) (cellsFrom (s.heap.objs.size + 1) scope.names []) (bindC (envOfC qual scope s.heap.objs.size f cd).kindOf (ps.zip us) fun _=>none) s1) :
  Inv (lS CX P w K mg base N qual scope f cd A outer s H E) [] (start N vs) H s1:=by
 have hpl : ps.length ≤ N.length:=by have:=congrArg List.length S.pre; rw [List.length_take] at this; omega
 obtain ⟨h1,tk,rfl,hk⟩:=x.done
 have noA : ∀ b : Addr,b ∉ (lS CX P w K mg base N qual scope f cd A outer s H E).ex:=fun b z=>absurd (show b∈([] : List Addr) from z) (by simp)
 refine ⟨⟨e0.mod,S.kind,rfl,rfl,Nat.le_refl _,fun y z c h1 h2=>?_,fun y hy=>?_,fun y c _ h=>?_,fun z=>absurd (show false = true from z) (by decide),Around.frames_deeper e0.frames,.inr ⟨rfl,rfl⟩,fun b z=>absurd z (noA b),e0.bs,e0.bsz,fun b _ _=>noA b,fun b z=>absurd z (noA b),e0.funs,e0.frf⟩,
  rfl,e0.bare,Un.kept hk,⟨_,x.toInCall.ns,fun i y v h1 h2 h3=>?_⟩,fun y c h=>⟨_,x.cell y c h⟩,e0.hok.fresh (Nat.le_refl _),fun y c h=>?_,fun p hp=>absurd (show p∈([] : List (Addr × Obj)) from hp) (by simp),e0.hok.kept hk,?_⟩
 ·exact name_of_addr x.apart (PySem.mem_of_lookup h1) (PySem.mem_of_lookup h2)
 ·have hy : scope.names.lookup y = some .cell∨scope.names.lookup y = some .free:=hy
  rcases hy with hy | hy
  ·exact jQ hy
  ·exact absurd rfl (S.nofree _ (PySem.mem_of_lookup hy))
 ·exact Nat.le_of_lt (x.above y c (PySem.mem_of_lookup h))
 ·have hi : i < vs.length:=by
   unfold start at h2
   by_cases hi : i < vs.length
   ·exact hi
   ·rw [List.getElem?_append_right (by simpa using hi)] at h2
    rw [List.getElem?_replicate] at h2
    split at h2 <;> cases h2
  have ha : vs[i]? = some v:=by
   unfold start at h2
   rw [List.getElem?_append_left (by simpa using hi),List.getElem?_map] at h2
   cases e : vs[i]? with
   | none=>rw [e] at h2; cases h2
   | some a=>rw [e] at h2; cases h2; rfl
  obtain ⟨u,hu,rv⟩:=r.get ha
  have hp : ps[i]? = some y:=by
   rw [← S.pre,List.getElem?_take_of_lt (by omega)]; exact h1
  have ndP : ps.Nodup:=by rw [← S.pre]; exact S.nd.sublist (List.take_sublist _ _)
  refine ⟨u,rv,?_⟩
  rcases S.par y (List.mem_of_getElem? hp) with k | k
  ·exact .inl ⟨k,kO ndP hp hu k⟩
  ·obtain ⟨c,e⟩:=jQ (n:=s.heap.objs.size + 1) k
   refine .inr ⟨.inl k,c,e,?_⟩
   have q:=x.cell y c e
   rw [kP ndP hp hu (by show scope.names.lookup y ≠ _; rw [k]; decide)] at q
   exact q
 ·exact e0.hok.fresh (Nat.le_of_lt (x.above y c (PySem.mem_of_lookup h)))
 ·unfold start
  show _ = N.length
  rw [List.length_append,List.length_map,List.length_replicate]
  omega
theorem aDU {CX : CXT} {P : Program} {w : World} {K : W.Frag} {mg : Str→Option Value} {base : Heap} {k : Nat} {f : Addr} {name qual : Str} {params : Arguments} {body : List Stmt} {scope : Scope} {dV kV doc pm cdv ct oc : Value} {an od : Option Addr}
  {osl : Array (Option Value)} {N ps : List Str} {sp : Sp} (lk : K.lookup f = some ⟨oc,od,.func (W.fnOf name qual params body scope dV kV doc pm an cdv ct),osl⟩) (hcd : W.codeIn K cdv qual = true) (S : aM N ps scope)
  (len : ∀ vs H Q E,sp vs H Q E→vs.length = ps.length)
  (hbody : ∀ (A : Around) (outer : List Env) (s : Shared) (H : Hp) (vs : List V) (Q : VK) (E : XK),gD k (A.deeper (envOfC qual scope s.heap.objs.size f cdv))→sp vs H Q E →
   ∃ t,PSs (lS CX P w K mg base N qual scope f cdv A outer s H E) body t∧t { nx:=fun _ H'=>Q .non H',rt:=Q } (start N vs) H) :
  lR P w K mg base CX (k + 1) f (W.fnOf name qual params body scope dV kV doc pm an cdv ct) ps sp:=by
 refine ⟨len,fun A outer s H args us vs Q E hr e0 hb r hsp=>?_⟩
 have hl:=len _ _ _ _ hsp
 have KX : K.In s.heap:=e0.mod.kin.keeps fun b o e=>(e0.bs b o e).1
 have lim : s.heap.NoLimit:=e0.mod.nolimit.keeps fun b o e=>(e0.bs b o e).1
 have hkind : ∀ y∈ps.zip us,scope.names.lookup y.1 = some .local∨(scope.names.lookup y.1 = some .cell∧((cellsFrom (s.heap.objs.size + 1) scope.names []).lookup y.1).isSome = true):=fun ⟨n,v⟩ hy=>by
  rcases S.par n (List.of_mem_zip hy).1 with q | q
  ·exact .inl q
  ·exact .inr ⟨q,W.cellsFrom_some _ _ _ (.inl q)⟩
 refine codeAny_call_function hr.depth (KX _ _ lk) rfl S.co S.gen rfl (W.codeRec_of KX hcd) (hb _ _ _ _ ?_)
 refine wpAny_newFunctionEnv_cells S.kind hkind fun env he s1 x=>?_
 subst he
 refine ⟨lim.keeps x.toInCall.keep,codeAny_func ?_⟩
 obtain ⟨t,ht,hq⟩:=hbody A outer s H vs Q E (hr.deeper _) hsp
 have I : Inv (lS CX P w K mg base N qual scope f cdv A outer s H E) [] (start N vs) H s1:=xX S e0 hl r x
 refine wpAny_mono (ht [] s1 (start N vs) H _ I hq) (fun fl s' hs=>?_) fun e s' hs=>hs
 have fin : ∀ {σ' : St} {H' : Hp} {v : V} {u : Value},Inv (lS CX P w K mg base N qual scope f cdv A outer s H E) [] σ' H' s'→RelV v u→Q v H'→CE outer P w H s Q u s' :=
  fun {σ' H' v u} J rv q=>⟨v,H',J.os,J.bare,J.base,J.hok,rv,q⟩
 cases fl with
 | ret u =>
  obtain ⟨v,σ',H',J,rv,q⟩:=hs
  exact fin J rv q
 | next =>
  obtain ⟨σ',H',J,q⟩:=hs
  exact fin (v:=V.non) (u:=Value.none) J rfl q
 | brk =>
  obtain ⟨_,_,_,q⟩:=hs
  exact False.elim q
 | cont =>
  obtain ⟨_,_,_,q⟩:=hs
  exact False.elim q
section
variable {X : Cx} {CX : CXT} {k : Nat} {f : Addr} {fd : FuncData} {ps : List Str} {sp : Sp} {dvs : List V} {ds : List Value} {E : XK} {x : Str} {p pos : Pos} {e : Expr} {es : List Expr} {t : TA}
theorem aBA (F : lR X.prog X.w X.K X.mg X.base CX k f fd ps sp) (hr : gD k X.A) (hg : Gl X x) (hm : X.mg x = some (.ref f)) (hk : W.keepIn X.K (.ref f) = true) (hb : dE X.K fd ps ds) (hd : Vals dvs ds) (hx : dO CX X E)
  (ha : PA X (e :: es) t) (hdb : (x == ("__debug__" : Str)) = false:=by decide) (he : starEach (e :: es) X.env = (false,eval e X.env) :: starEach es X.env:=by rfl) (hpl : (backTo pos (starEach es X.env)).any (·.1) = false:=by rfl) :
  PE X (.Call (.Name x p) (e :: es) [] pos) (gA sp dvs E t):=by
 intro pins s σ H Q I h
 refine wpAny_Call_Name_kw (gY I hg hm ?_ hdb)
 refine W.callWith_K (h₀:=X.base) I.ok.mod.kin hk (thn (ha pos pins s σ H _ I h) fun us s1 ⟨vs,H1,I1,r,q⟩=>⟨I1.kIn,?_⟩) he hpl
 have r2 : Vals (vs ++ dvs) (us ++ ds):=r.append hd
 have hl : (us ++ ds).length = ps.length:=by rw [← r2.length]; exact F.len _ _ _ _ q
 refine wpAny_call (codeAny_mono (F.run X.A X.stack s1 H1 ⟨us,[]⟩ (us ++ ds) (vs ++ dvs) Q E hr I1.env0 (hb s1 us I1.kIn hl) r2 q) fun r s' hq=>?_)
 cases r with
 | error e=>exact hx pins σ H1 s1 e s' I1 hq
 | ok fl =>
  cases fl with
  | ret u=>exact I1.after hq
  | next=>exact False.elim hq
  | brk=>exact False.elim hq
  | cont=>exact False.elim hq
end
section
variable {P : Program} {w : World} {K : W.Frag} {mg : Str→Option Value} {base : Heap}
theorem Fun.okX {x qual : Str} {st : Stmt} {f : Addr} {fd : FuncData} {N ps : List Str} {k : Nat} {sp : Sp} (F : Fun K x qual st f fd) (S : aM N ps (aG st)) (len : ∀ vs H Q E,sp vs H Q E→vs.length = ps.length)
  (hbody : ∀ (cdv : Value) (A : Around) (outer : List Env) (s : Shared) (H : Hp) (vs : List V) (Q : VK) (E : XK),Room k (A.deeper (envOfC qual (aG st) s.heap.objs.size f cdv))→sp vs H Q E →
   ∃ t,PSs (cxOf (CXf P w) P w K mg base N qual (aG st) f cdv A outer s H E) (bY st) t∧t { nx:=fun _ H'=>Q .non H',rt:=Q } (start N vs) H) : FnOk P w K mg base (CXf P w) (k + 1) f fd ps sp:=by
 obtain ⟨oc,od,kV,doc,pm,an,cdv,ct,osl,rfl,lk,hcd⟩:=F.ex
 exact xQ lk hcd S len fun A outer s H vs Q E hr hsp=>hbody cdv A outer s H vs Q E hr hsp
theorem Fun.okW {x qual : Str} {st : Stmt} {f : Addr} {fd : FuncData} {N ps : List Str} {k : Nat} {sp : Sp} (F : Fun K x qual st f fd) (S : aM N ps (aG st)) (len : ∀ vs H Q E,sp vs H Q E→vs.length = ps.length)
  (hbody : ∀ (cdv : Value) (A : Around) (outer : List Env) (s : Shared) (H : Hp) (vs : List V) (Q : VK) (E : XK),gD k (A.deeper (envOfC qual (aG st) s.heap.objs.size f cdv))→sp vs H Q E →
   ∃ t,PSs (lS (CXf P w) P w K mg base N qual (aG st) f cdv A outer s H E).nox (bY st) t∧t { nx:=fun _ H'=>Q .non H',rt:=Q } (start N vs) H) : lR P w K mg base (CXf P w) (k + 1) f fd ps sp:=by
 obtain ⟨oc,od,kV,doc,pm,an,cdv,ct,osl,rfl,lk,hcd⟩:=F.ex
 refine aDU lk hcd S len fun A outer s H vs Q E hr hsp=>?_
 obtain ⟨t,h,q⟩:=hbody cdv A outer s H vs Q E hr hsp
 exact ⟨t,h.nox,q⟩
end
end L2
namespace L2
open PySem PySem.Spec PyProof.Rows
abbrev Cx.trying (X : Cx) (pn : List (Addr × Obj)) (xe : Value→Shared→Prop) : Cx:={ X with pn:=pn,xe:=xe }
abbrev Cx.handling (X : Cx) (pn : List (Addr × Obj)) (p : Addr) : Cx:={ X with pn:=pn,xe:=fun _ _=>False,calm:=false,A:=X.A.mark (some (.ref p)) }
theorem Cx.Ok.trying {X : Cx} (ok : X.Ok) (pn : List (Addr × Obj)) (xe : Value→Shared→Prop) : (X.trying pn xe).Ok :=
 ⟨ok.mod,ok.kind,ok.glob,ok.blt,ok.above,ok.inj,ok.has,ok.cab,ok.hd,ok.frames,ok.stk,ok.exf,ok.bs,ok.bsz,ok.noex,ok.exfs,ok.funs,ok.frf⟩
theorem Cx.Ok.handling {X : Cx} (ok : X.Ok) (pn : List (Addr × Obj)) (p : Addr) : (X.handling pn p).Ok :=
 ⟨ok.mod,ok.kind,ok.glob,ok.blt,ok.above,ok.inj,ok.has,ok.cab,fun z=>absurd (show false = true from z) (by decide),ok.frames,ok.stk,ok.exf,ok.bs,ok.bsz,ok.noex,ok.exfs,ok.funs,ok.frf⟩
section
variable {X : Cx} {pins : List (Addr × Obj)} {σ : St} {H : Hp} {s : Shared}
theorem Inv.trying (I : Inv X pins σ H s) (xe : Value→Shared→Prop) : Inv (X.trying (X.pn ++ pins) xe) [] σ H s :=
 ⟨I.ok.trying _ _,I.os,I.bare,I.base,I.loc,I.cell,I.free,I.freeC,fun p hp=>I.pin p (by simpa using hp),I.hok,I.len⟩
theorem Inv.untrying {pins' : List (Addr × Obj)} {xe : Value→Shared→Prop} (ok : X.Ok) (I : Inv (X.trying (X.pn ++ pins) xe) pins' σ H s) : Inv X pins σ H s :=
 ⟨ok,I.os,I.bare,I.base,I.loc,I.cell,I.free,I.freeC,fun p hp=>I.pin p (List.mem_append_left _ hp),I.hok,I.len⟩
theorem Inv.unhandling {pins' : List (Addr × Obj)} {p : Addr} (ok : X.Ok) (I : Inv (X.handling (X.pn ++ pins) p) pins' σ H s) : Inv X pins σ H s :=
 ⟨ok,I.os,I.bare,I.base,I.loc,I.cell,I.free,I.freeC,fun p hp=>I.pin p (List.mem_append_left _ hp),I.hok,I.len⟩
theorem sV {xe : Value→Shared→Prop} {pins' : List (Addr × Obj)} {B h6 : Heap} {p : Addr} {C a0 : Value} {H' : Hp} {s' : Shared} (ok : X.Ok) (I : Inv (X.trying (X.pn ++ pins) xe) pins' σ H s)
  (F : xV X.prog X.w X.stack H s B p C a0 H' s') (fl : Heap.FlyingW B X.stack p C a0 h6) (sm : s'.heap.UpToSlots h6) :
  H' p = none∧Inv (X.handling (X.pn ++ pins) p) [] σ (upd H' p (excO p C)) { s' with heap:=h6 }:=by
 have hp : H' p = none:=F.hok.freshN fl.2.1
 have nfr : ∀ b∈frs X.stack,b ≠ p:=fun b hb z=>by
  obtain ⟨_,o,ho,nd⟩:=fl.2.2.1.mem hb
  obtain ⟨oe,vs,_,_,_,he,_,hd,_⟩:=fl.2.2.2
  rw [z] at ho
  have e : o = oe:=Option.some.inj (ho.symm.trans he)
  rw [e] at nd
  exact nd vs hd
 have ne : ∀ b o,s.heap.get? b = some o→H b = none→b ≠ p:=fun b o e n z=>by
  by_cases hb : b∈frs X.stack
  ·exact nfr b hb z
  ·have q:=(F.keep b o e n hb).1
   rw [z,fl.2.1] at q; cases q
 have neT : ∀ {b : Addr} {u : HO},H' b = some u→b ≠ p:=fun {b u} e z=>by rw [z,hp] at e; cases e
 have U : Un (frs X.stack) [] H (upd H' p (excO p C)) s.heap h6:={
  keep:=fun b o e n hb _=>fl.1 _ _ (F.keep b o e n hb).1
  slot:=fun b o e n hb _=>by
   obtain ⟨⟨sl,q⟩,_⟩:=F.frame b o e n hb
   obtain ⟨_,o',ho',nd⟩:=F.fl.2.2.1.mem hb
   have e' : o' = { o with slots:=sl }:=Option.some.inj (ho'.symm.trans q)
   obtain ⟨sl2,q2⟩:=sm b o' ho' nd
   rw [e'] at q2
   exact ⟨sl2,q2⟩
  free:=fun b o e n _=>by
   rw [aH (ne b o e n)]
   by_cases hb : b∈frs X.stack
   ·exact (F.frame b o e n hb).2
   ·exact (F.keep b o e n hb).2
  there:=fun b o e _=>by
   cases n : H b with
   | none =>
    by_cases hb : b∈frs X.stack
    ·obtain ⟨_,o',ho',nd⟩:=fl.2.2.1.mem hb
     exact ⟨o',ho'⟩
    ·exact ⟨o,fl.1 _ _ (F.keep b o e n hb).1⟩
   | some u =>
    obtain ⟨o',q⟩:=F.there b o e (by rw [n]; intro z; cases z)
    exact ⟨o',fl.1 _ _ q⟩
  tups:=fun b xs e=>by rw [aH (neT (F.tups b xs e))]; exact F.tups b xs e
  frzs:=fun b o u e=>by rw [aH (neT (F.frzs b o u e))]; exact F.frzs b o u e
  tbls:=fun b ps e=>by
   obtain ⟨m,q⟩:=F.tbls b ps e
   exact ⟨m,by rw [aH (neT q)]; exact q⟩ }
 have hok : HOk X.prog X.w (upd H' p (excO p C)) h6:=fun b u e=>by
  by_cases hb : b = p
  ·subst hb
   rw [aD] at e; cases e
   obtain ⟨o,q,c⟩:=fl.there
   exact IsX.ok ⟨o,q,c⟩
  ·rw [aH hb] at e
   exact (F.hok b u e).stay (fun c v _ q=>fl.1 c v q) (fun c q=>by rw [aH (neT q)]; exact q) fun c xs q=>by rw [aH (neT q)]; exact q
 have J:=I.call' (s':={ s' with heap:=h6 }) (ch:=[]) F.os U hok F.bare fun b z=>absurd z (by simp)
 exact ⟨hp,⟨ok.handling _ _,J.os,J.bare,J.base,J.loc,J.cell,J.free,J.freeC,fun q hq=>J.pin q (List.mem_append_left _ (by simpa using hq)),J.hok,J.len⟩⟩
end
def tTry (K : W.Frag) (Dc : Addr) (i : Nat) (E : St→XK) (tb th : TS) : TS:=fun D σ H=>tb D σ H∧∀ σ' C H',E σ' C none H'→W.subIn K C (.ref Dc) = some true∧(∃ Cc,C = .ref Cc) ∧
 ∀ p,H' p = none→th { nx:=fun σ2 H2=>D.nx (σ2.set i none) H2,rt:=D.rt,bk:=fun σ2 H2=>D.bk (σ2.set i none) H2,ct:=fun σ2 H2=>D.ct (σ2.set i none) H2 } (σ'.set i (some (.ref p))) (upd H' p (excO p C))
theorem aDV {X : Cx} {body suite : List Stmt} {b₀ : Stmt} {x n : Str} {np hpos pos : Pos} {Dc : Addr} {i : Nat} {E : St→XK} {tb th : TS} (TD : ECls X.K Dc) (hg : Gl X x) (hm : X.mg x = some (.ref Dc)) (hst : X.stack = X.env :: X.outer) (hfr : X.env.frame = some X.env.locals)
  (hN : X.N.Nodup) (hi : X.N[i]? = some n) (hn : X.env.scope.names.lookup n = some .local)
  (hb : ∀ pn xe,jC (CXf X.prog X.w) (X.trying pn xe) E→PSs (X.trying pn xe) body tb) (hh : ∀ pn p,PSs (X.handling pn p) (b₀ :: suite) th) (hdb : (x == ("__debug__" : Str)) = false:=by decide) :
  PS X (.Try body [.ExceptHandler (some (.Name x np)) (some n) (b₀ :: suite) hpos] [] [] pos) (tTry X.K Dc i E tb th):=by
 intro pins s σ H D I h
 obtain ⟨h1,h2⟩:=h
 refine wpAny_Try_except ?_
 have hcls : (X.env.scope.kind == .class || (X.env.scope.kind == .module && X.env.locals != X.env.globals)) = false:=by rw [I.ok.kind]; rfl
 refine wpAny_mono (hb (X.pn ++ pins) _ ?_ [] s σ H D (I.trying _) h1) (fun f s1 q=>?_) fun e s1 q=>q
 ·-- an exception has come
  intro pins1 σ1 H1 s1 e s' I1 hcx
  obtain ⟨p,C,a0,B,H',rfl,F,q⟩:=hcx
  obtain ⟨hsub,⟨Cc,hCc⟩,hth⟩:=h2 σ1 C H' q
  subst hCc
  have F' : xV X.prog X.w X.stack H1 s1 B p (.ref Cc) a0 H' s':=F
  have fl0:=F'.fl
  rw [hst] at fl0
  refine wpAny_looks_onW (by rw [I.ok.frames,hst]) hfr fl0 fun h4 held4 sm4=>?_
  refine wpAny_landsW held4 fun h5 fl5 sm5=>?_
  have base5 : ∀ b o,X.base.get? b = some o→h5.get? b = some o:=fun b o e=>by
   obtain ⟨e1,n1⟩:=I1.bs b o e
   refine fl5.1 _ _ (F'.keep b o e1 n1 fun z=>?_).1
   have:=(I1.stack.mem z).1
   rw [e] at this; cases this
  have kin5 : X.K.In h5:=I.ok.mod.kin.keeps base5
  obtain ⟨oe,hoe,hoc⟩:=fl5.there
  refine wpAny_handleBy_cons (codeAny_handlers_test (Calls.Name_function_global I.ok.kind hg (Calls.loadGlobal_global (by rw [I.ok.glob]; exact I.ok.mod.glob.keeps base5) hm ?_) hdb)) (by intro z; cases z)
  refine vB (K:=X.K) kin5 TD hoe hoc hsub ?_
  show codeAny _ _ _ _ _
  refine codeAny_handlers_suite_as ?_
  refine lands_againW fl5 fun h6 fl6 sm6=>?_
  have fl6' : Heap.FlyingW B X.stack p (.ref Cc) a0 h6:=by rw [hst]; exact fl6
  obtain ⟨hp,IH⟩:=sV I.ok I1 F' fl6' ((sm4.trans sm5).trans sm6)
  refine iN (X:=X.handling (X.pn ++ pins) p) IH hN hi (.inl hn) (v:=.ref p) rfl (fun s7 I7 _=>?_) (.inr hn)
  refine wpAny_mono (hh _ p [] s7 _ _ _ I7 (hth p hp)) (fun f s8 q8=>?_) fun _ _ z=>z.elim
  have gone : ∀ {σ2 : St} {H2 : Hp} {Q : Unit→Shared→Prop},Inv (X.handling (X.pn ++ pins) p) [] σ2 H2 s8→(∀ s9,Inv X pins (σ2.set i none) H2 s9→Q () s9) →
    wpAny (model X.prog X.w) X.A (do bindName X.env n .none; unbindBehindTheSuite X.env n hpos) Q X.xe s8:=fun {σ2 H2 Q} I8 k=>by
   have I8' : Inv X pins σ2 H2 s8:=I8.unhandling I.ok
   refine wpAny_bind (wpAny_bindName (iN I8' hN hi (.inl hn) (v:=.non) rfl (fun s9 I9 _=>?_) (.inr hn)))
   obtain ⟨m,hm9,hl9⟩:=I9.loc
   have hiσ : i < (σ2.set i (some V.non)).length:=by rw [I9.len]; exact (List.getElem?_eq_some_iff.mp hi).1
   have hiσ2 : i < σ2.length:=by simpa using hiσ
   obtain ⟨u,ru,lk⟩:=hl9 i n .non hi (by rw [List.getElem?_set_self hiσ2]) (.inl hn)
   have hmn : m n = some u:=by
    rcases lk with ⟨_,z⟩ | ⟨hk,_⟩
    ·exact z
    ·have hk' : X.env.scope.names.lookup n = some .cell∨X.env.scope.names.lookup n = some .free:=hk
     rw [hn] at hk'
     rcases hk' with z | z <;> cases z
   unfold unbindBehindTheSuite
   refine wpAny_onRaise (wpAny_unbindName_local hn hm9 hmn hcls fun h' uu hn' sb=>k _ ?_)
   obtain ⟨oL,_,_,hoL,_⟩:=id hm9
   have hok : HOk X.prog X.w H2 h':=fun b ob e=>by
    refine (I9.hok b ob e).stay (fun c w' hc q=>(sb.2 c ?_).trans q) (fun _ q=>q) fun _ _ q=>q
    rintro rfl
    rcases hc with rfl | hc
    ·rw [I9.free] at e; cases e
    ·rw [I9.free] at hc; cases hc
   have nL : ∀ b o,X.s₀.heap.get? b = some o→b ≠ X.env.locals:=fun b o e=>Nat.ne_of_lt (Nat.lt_of_lt_of_le (Heap.lt_size e) I9.ok.above)
   refine ⟨I9.ok,I9.os,I9.bare,⟨fun b o e n' hb hx=>(sb.2 b (nL b o e)).trans (I9.base.keep b o e n' hb hx),fun b o e n' hb hx=>?_,I9.base.free,fun b o e hx=>?_,I9.base.tups,I9.base.frzs,I9.base.tbls⟩,⟨_,hn',fun j y v e1 e2 e3=>?_⟩,fun y c e=>?_,I9.free,I9.freeC,fun q hq=>?_,hok,by simpa using I9.len⟩
   ·obtain ⟨sl,e1⟩:=I9.base.slot b o e n' hb hx
    exact ⟨sl,(sb.2 b (nL b o e)).trans e1⟩
   ·obtain ⟨o',e1⟩:=I9.base.there b o e hx
    exact ⟨o',(sb.2 b (nL b o e)).trans e1⟩
   ·by_cases hj : j = i
    ·subst hj
     rw [List.getElem?_set_self hiσ2] at e2
     cases e2
    ·rw [List.getElem?_set_ne (Ne.symm hj)] at e2
     obtain ⟨u',r',l'⟩:=hl9 j y v e1 (by rw [List.getElem?_set_ne (Ne.symm hj)]; exact e2) e3
     refine ⟨u',r',?_⟩
     rcases l' with ⟨k1,z⟩ | ⟨k1,c,z1,z2⟩
     ·have : y ≠ n:=fun e=>hj (mX hN e1 (e ▸ hi))
      exact .inl ⟨k1,by simp [this,z]⟩
     ·exact .inr ⟨k1,c,z1,z2.sameBut sb (I9.cne y c z1)⟩
   ·obtain ⟨w',z⟩:=I9.cell y c e
    exact ⟨w',z.sameBut sb (I9.cne y c e)⟩
   ·obtain ⟨e,n',ne,nf,d⟩:=I9.pin q hq
    exact ⟨(sb.2 q.1 ne).trans e,n',ne,nf,d⟩
  cases f with
  | next=>obtain ⟨σ2,H2,I8,q8⟩:=q8; exact gone I8 fun s9 I9=>⟨_,H2,I9,q8⟩
  | brk=>obtain ⟨σ2,H2,I8,q8⟩:=q8; exact gone I8 fun s9 I9=>⟨_,H2,I9,q8⟩
  | cont=>obtain ⟨σ2,H2,I8,q8⟩:=q8; exact gone I8 fun s9 I9=>⟨_,H2,I9,q8⟩
  | ret u=>obtain ⟨v,σ2,H2,I8,r8,q8⟩:=q8; exact gone I8 fun s9 I9=>⟨v,_,H2,I9,r8,q8⟩
 ·cases f with
  | next=>obtain ⟨σ2,H2,I8,q8⟩:=q; exact wpAny_execs_nil ⟨σ2,H2,I8.untrying I.ok,q8⟩
  | brk=>obtain ⟨σ2,H2,I8,q8⟩:=q; exact ⟨σ2,H2,I8.untrying I.ok,q8⟩
  | cont=>obtain ⟨σ2,H2,I8,q8⟩:=q; exact ⟨σ2,H2,I8.untrying I.ok,q8⟩
  | ret u=>obtain ⟨v,σ2,H2,I8,r8,q8⟩:=q; exact ⟨v,σ2,H2,I8.untrying I.ok,r8,q8⟩
end L2
namespace L2
open PySem PySem.Spec PyProof.Rows PySem.W
theorem vV {h : Heap} {a : Addr} {m m' : Str→Option Value} (x : h.Ns a m) (y : h.Ns a m') : m = m':=by
 obtain ⟨o,es,ep,e,d,_,q⟩:=x
 obtain ⟨o',es',ep',e',d',_,q'⟩:=y
 rw [e] at e'; cases e'
 rw [d] at d'; cases d'
 funext z
 rw [← q z,q' z]
theorem Inv.fromK {X : Cx} {pins : List (Addr × Obj)} {σ : St} {H : Hp} {s : Shared} {h' : Heap} {m : Str→Option Value} {D : Addr} {o : HO} {t' : Nat} (I : Inv X pins σ H s) (F : Fr X.base X.env.locals s.heap m) (F' : Fr X.base X.env.locals h' m)
  (N' : News X.base X.env.locals h' (eV X.base s.heap X.env.locals)) (hD : s.heap.get? D = none) (new : bN X.prog X.w (upd H D o) h' D o) : Inv X pins σ (upd H D o) { s with heap:=h',toks:=t' }:=by
 have hn:=I.hok.freshN hD
 have ne : ∀ b u,s.heap.get? b = some u→b ≠ D:=fun b u e z=>by rw [z,hD] at e; cases e
 have keep : ∀ b u,b ≠ X.env.locals→s.heap.get? b = some u→h'.get? b = some u:=fun b u hb e=>by
  cases q : X.base.get? b with
  | some v =>
   have:=I.bk b v q
   rw [e] at this; cases this
   exact F'.keep b _ q
  | none=>exact (N' (b,u) (fZ hb q e)).1
 refine I.step (g':=s.gens) (d':=s.drawn) (ch:=[]) (fun _ z=>absurd z (by simp)) (fun b u hb _ _ e _=>keep b u hb e) (fun b u hb _ _ e _=>⟨u.slots,keep b u hb e⟩) (fun b u _ e n=>by rw [aH (ne b u e)]; exact n) (fun b u _ e=>?_)
  (fun b xs e=>by rw [aH (aJ e hn)]; exact e) (fun b u v e=>by rw [aH (aJ e hn)]; exact e) (fun b ps e=>⟨#[],by rw [aH (aJ e hn),e]; simp⟩) (fun m1 hm=>by rw [vV hm F.ns]; exact F'.ns) (fun b u e=>?_) I.bare
 ·by_cases hb : b = X.env.locals
  ·obtain ⟨o',_,_,q,_⟩:=F'.ns
   exact ⟨o',by rw [hb]; exact q⟩
  ·exact ⟨u,keep b u hb e⟩
 ·by_cases hb : b = D
  ·subst hb; rw [aD] at e; cases e; exact new
  ·rw [aH hb] at e
   refine (I.hok b u e).stay (fun c v hc q=>keep c v ?_ q) (fun c q=>by rw [aH (aJ q hn)]; exact q) fun c xs q=>by rw [aH (aJ q hn)]; exact q
   rintro rfl
   rcases hc with z | hc
   ·have f:=I.free; rw [z,e] at f; cases f
   ·rw [I.free] at hc; cases hc
theorem rK {X : Cx} {pins : List (Addr × Obj)} {σ : St} {H : Hp} {s : Shared} {h' : Heap} {D : Addr} {o : Obj} (I : Inv X pins σ H s) (N : News X.base X.env.locals h' ((D,o) :: eV X.base s.heap X.env.locals)) (hlt : ∀ q∈eV X.base s.heap X.env.locals,q.1 < D) : s.heap.get? D = none:=by
 cases e : s.heap.get? D with
 | none=>rfl
 | some u =>
  obtain ⟨_,n1,n2⟩:=N (D,o) List.mem_cons_self
  exact absurd (hlt (D,u) (fZ n1 n2 e)) (Nat.lt_irrefl _)
end L2
namespace L2
open PySem PySem.Spec PyProof.Rows PySem.W
def aAf (K : W.Frag) (H : Hp) (a : Addr) (y : Int × Int) : Prop:=SqT K H a [.int y.1,.int y.2]
section
variable {X : Cx}
theorem xY {pins : List (Addr × Obj)} {σ : St} {H : Hp} {s : Shared} {a : Addr} {y : Int × Int} (I : Inv X pins σ H s) (h : aAf X.K H a y) : ∃ o n t u,s.heap.get? a = some o∧o.cls = .type "tuple" ∧ o.data = .seq #[.int y.1 t,.int y.2 u] n:=by
 obtain ⟨its,r,p,_⟩:=I.tuple h
 obtain ⟨u1,u2,rfl,r1,r2⟩:=r.two
 obtain ⟨t,rfl⟩:=r1
 obtain ⟨t',rfl⟩:=r2
 obtain ⟨o,e,c,n,d⟩:=p
 exact ⟨o,n,t,t',e,c,d⟩
end
end L2
namespace L2
open PySem PySem.Spec PyProof.Rows PySem.W
def hAt (hs : Array Int) (i : Nat) : Int:=(hs[i]?).getD 0
def dU (hs : Array Int) (t : SetTable) (h : Int) : Option (Array Int × SetTable) :=
 if t.gaveWay then none else
 match t.probe (hAt hs) h (t.probeStart h) with
 | some (.empty j none) =>
  let q:=t.put j
  let hs1:=SetTable.insertAt hs q.2 h
  if q.1.fits hs1.size && decide (hs1.size ≤ 4096) then
   if q.1.tooFull then
    (match q.1.relaid hs1 (SetTable.grown (hs.size + 1)) with
    | some (t2,order) =>
     let hs2:=order.filterMap (hs1[·]?)
     if hs2.size == hs1.size && t2.fits hs2.size && decide (SetTable.sizeAbove (SetTable.grown (hs.size + 1)) ≤ 4096) then some (hs2,t2) else none
    | none=>none)
   else some (hs1,q.1)
  else none
 | _=>none
def oI (led : Bool) : List Int→Option (Array Int × SetTable):=fun l=>l.foldlM (fun q h=>dU q.1 q.2 h) (#[],SetTable.fresh 0 0 led)
def fH (h : Heap) (S : Addr) (hs : Array Int) (t : SetTable) : Prop:=∃ o es ep,h.get? S = some o∧o.cls = .type "set" ∧ (o.dict = none∧o.slots = #[])∧o.data = .set es ep t∧es.map (·.1) = hs∧t.fits es.size = true
section
variable {prog : Program} {w : World} {A : Around} {E : Value→Shared→Prop} {s : Shared} {S : Addr}
theorem aDW (es : Array (Int × Value)) : (fun i=>(es[i]?.map (·.1)).getD 0) = hAt (es.map (·.1)):=by
 funext i
 unfold hAt
 rw [Array.getElem?_map]
theorem kX (es : Array (Int × Value)) (p : Nat) (x : Int × Value) : (SetTable.insertAt es p x).map (·.1) = SetTable.insertAt (es.map (·.1)) p x.1:=by
 unfold SetTable.insertAt
 simp
theorem kY (es : Array (Int × Value)) (order : Array Nat) : (order.filterMap (es[·]?)).map (·.1) = order.filterMap ((es.map (·.1))[·]?):=by
 apply Array.ext'
 rw [Array.toList_map,Array.toList_filterMap,Array.toList_filterMap,List.map_filterMap]
 congr 1
 funext i
 rw [Array.getElem?_map]
theorem xZ {hs : Array Int} {t : SetTable} {h : Int} {x : Value} {j : Nat} {Q : SetFound→Shared→Prop} (hS : fH s.heap S hs t) (hg : t.gaveWay = false) (hp : t.probe (hAt hs) h (t.probeStart h) = some (.empty j none)) (q : Q (.free j false) s) :
  wpAny (model prog w) A (setSearch S x h true) Q E s:=by
 obtain ⟨o,es,ep,ho,hc,hdi,hd,hm,hf⟩:=hS
 unfold setSearch setSearchFrom
 refine wpAny_bind (wpAny_setState_of ho hd hf ?_)
 dsimp only
 rw [hg,if_neg Bool.false_ne_true]
 have hp' : t.probe (fun i=>(es[i]?.map (·.1)).getD 0) h (t.probeStart h) = some (.empty j none):=by rw [aDW,hm]; exact hp
 refine wpAny_bind (wpAny_pure ?_)
 erw [hp']
 exact wpAny_pure q
theorem aAg {a : Addr} {o : Obj} {n : Nat} {x y : Int} {t u : Tok} {Q : Bool→Shared→Prop} (ho : s.heap.get? a = some o) (hc : o.cls = .type "tuple") (hd : o.data = .seq #[.int x t,.int y u] n) (q : Q true s) :
  wpAny (model prog w) A (hashByValue 8 (.ref a)) Q E s:=by
 have hT : s.TypeIs (.ref a) "tuple" := ⟨_,ho,hc⟩
 unfold hashByValue
 refine wpAny_bind (wpAny_specialOf hT PySem.F.slot_tuple_hash.lookup ?_)
 refine wpAny_bind (wpAny_seqItems ho hd ?_)
 refine wpAny_bind ?_
 show wpAny _ _ (forIn #[Value.int x t,Value.int y u] _ _) _ _ s
 rw [← Array.forIn_toList]
 refine wpAny_forIn_list _ (fun rest r s'=>r.1 = none∧s' = s∧∀ v∈rest,∃ z k,v = Value.int z k) _ ?_ ?_ _ _ ⟨rfl,rfl,fun v hv=>?_⟩
 ·rintro v rest r s' ⟨hr,rfl,hall⟩
  obtain ⟨z,k,rfl⟩:=hall v List.mem_cons_self
  refine wpAny_bind (wpAny_pure ?_)
  exact wpAny_pure ⟨rfl,rfl,fun u' hu'=>hall u' (List.mem_cons_of_mem _ hu')⟩
 ·rintro ⟨r1,r2⟩ s' ⟨hr,rfl,_⟩
  have hr' : r1 = none:=hr
  subst hr'
  exact wpAny_pure q
 ·rcases List.mem_cons.mp hv with z | z
  ·exact ⟨_,_,z⟩
  ·rcases List.mem_cons.mp z with z | z
   ·exact ⟨_,_,z⟩
   ·cases z
theorem vW {hs : Array Int} {t t' : SetTable} {es' : Array (Int × Value)} (hS : fH s.heap S hs t) (hf : t'.fits es'.size = true) (hz : es'.size ≤ 4096) {Q : Unit→Shared→Prop}
  (q : ∀ h',Heap.SameBut S s.heap h'→fH h' S (es'.map (·.1)) t'→Q () { s with heap:=h' }) : wpAny (model prog w) A (storeSet S es' t') Q E s:=by
 obtain ⟨o,es,ep,ho,hc,hdi,hd,hm,_⟩:=hS
 refine wpAny_storeSet_of ho hd (q _ (Heap.SameBut.update s.heap S (Obj.putSet es' t')) ?_) (Nat.le_trans hz (by decide))
 have g:=Heap.get?_update_self (Obj.putSet es' t') ho (by rw [putSet_of es' t' hd]; rfl)
 rw [putSet_of es' t' hd] at g
 exact ⟨_,es',ep + 1,g,hc,hdi,rfl,rfl,hf⟩
theorem aCN {hs hs' : Array Int} {t t' : SetTable} {a : Addr} {o : Obj} {n : Nat} {x y : Int} {tx ty : Tok} {Q : Bool → Shared → Prop} (hu : A.units < cLine) (hS : fH s.heap S hs t) (ho : s.heap.get? a = some o) (hc : o.cls = .type "tuple") (hd : o.data = .seq #[.int x tx, .int y ty] n) (hne : a ≠ S)
    (hst : dU hs t (tupleKeyHash (intKind prog w) [x, y]) = some (hs', t')) (q : ∀ h' tk, Heap.SameBut S s.heap h' → fH h' S hs' t' → Q true { s with heap := h', toks := tk }) : wpAny (model prog w) A (setAdd S (.ref a)) Q E s := by
  have hk : IsTupleKey (intKind prog w) s.heap [x, y] a := ⟨o, _, n, ho, hc, hd, .cons (intKind_is _ _ _ _) (.cons (intKind_is _ _ _ _) .nil)⟩
  unfold setAdd
  refine wpAny_holding (wpAny_bind (wpAny_pyHash_tuple hu hk ?_))
  generalize htk : s.toks + ([x, y].length + 1) = tk
  generalize hh : tupleKeyHash (intKind prog w) [x, y] = h at hst ⊢
  have hS0 := hS
  obtain ⟨ob, es, ep, hb, hbc, hbd, hbe, hm, hf⟩ := hS
  unfold setAddHashed setAddHashedIn
  refine wpAny_holding (wpAny_bind (wpAny_setState_of (s := { s with toks := tk }) hb hbe hf ?_))
  dsimp only
  have hbs : byScan (.ref a) es = false := by unfold byScan; rfl
  rw [hbs, if_neg Bool.false_ne_true]
  unfold dU at hst
  cases hg : t.gaveWay with
  | true => rw [hg, if_pos rfl] at hst; cases hst
  | false =>
    rw [hg, if_neg Bool.false_ne_true] at hst
    split at hst
    · rename_i j hp
      dsimp only at hst
      split at hst
      · rename_i hfz
        rw [Bool.and_eq_true, decide_eq_true_eq] at hfz
        refine wpAny_bind (xZ (s := { s with toks := tk }) hS0 hg hp ?_)
        dsimp only
        refine wpAny_bind (wpAny_setState_of (s := { s with toks := tk }) hb hbe hf ?_)
        dsimp only
        have byv : ∀ {kk : Bool → Sem Bool}, wpAny (model prog w) A (kk true) Q E { s with toks := tk } → wpAny (model prog w) A (if (t.put j).1.plain = true then hashByValue 8 (.ref a) >>= kk else pure true >>= kk) Q E { s with toks := tk } := fun {kk} hP => by
          split
          · exact wpAny_bind (aAg (s := { s with toks := tk }) ho hc hd hP)
          · exact wpAny_bind (wpAny_pure hP)
        refine byv ?_
        simp only [if_true]
        have hsz : (SetTable.insertAt es (t.put j).2 (h, Value.ref a)).size = (SetTable.insertAt hs (t.put j).2 h).size := by
          rw [← hm, ← kX es (t.put j).2 (h, Value.ref a), Array.size_map]
        refine wpAny_bind (vW (s := { s with toks := tk }) hS0 (by rw [hsz]; exact hfz.1) (by rw [hsz]; exact hfz.2) fun h1 sb1 S1 => ?_)
        rw [kX, hm] at S1
        split at hst
        · rename_i htf
          rw [show (!false && (t.put j).1.tooFull) = true by rw [htf]; rfl, if_pos rfl]
          split at hst
          · rename_i t2 order hr
            split at hst
            · rename_i hq
              rw [Bool.and_eq_true, Bool.and_eq_true, decide_eq_true_eq, beq_iff_eq] at hq
              obtain ⟨⟨hq1, hq2⟩, hq3⟩ := hq
              cases hst
              have hes : es.size = hs.size := by rw [← hm, Array.size_map]
              refine wpAny_bind ?_
              unfold setRelay
              obtain ⟨o1, es1, ep1, g1, g2, g3, g4, g5, g6⟩ := id S1
              refine wpAny_bind (wpAny_setState_of (s := { s with heap := h1, toks := tk }) g1 g4 g6 ?_)
              dsimp only
              rw [hes]
              rw [if_neg (by have h4 : (4096 : Nat) ≤ sizeLine := by decide
                             omega)]
              refine wpAny_bind ?_
              rw [g5, hr]
              have hsz2 : (order.filterMap (es1[·]?)).size = es1.size := by
                have e1 := congrArg Array.size (kY es1 order)
                rw [Array.size_map, g5] at e1
                rw [e1, hq1, ← g5, Array.size_map]
              refine wpAny_of_eq (show _ = (pure (order.filterMap (es1[·]?), t') : Sem (Array (Int × Value) × SetTable)) from ?_) ?_
              · show (do
                  let es' := order.filterMap (es1[·]?)
                  if es'.size != es1.size then unsupported "internal:set-table-lost-an-element"
                  pure (es', t') : Sem (Array (Int × Value) × SetTable)) = _
                simp [hsz2]
              dsimp only
              have hle : es1.size ≤ 4096 := by
                have e1 := congrArg Array.size g5
                rw [Array.size_map] at e1
                rw [e1]
                exact hfz.2
              have hfm : (order.filterMap (es1[·]?)).size = (order.filterMap ((SetTable.insertAt hs (t.put j).2 h)[·]?)).size := by
                have e1 := congrArg Array.size (kY es1 order)
                rw [Array.size_map, g5] at e1
                exact e1
              refine vW (s := { s with heap := h1, toks := tk }) S1 (by rw [hfm]; exact hq2) (by rw [hsz2]; exact hle) fun h2 sb2 S2 => ?_
              rw [kY, g5] at S2
              exact wpAny_pure (q h2 tk (sb1.trans sb2) S2)
            · cases hst
          · cases hst
        · rename_i htf
          cases hst
          have htf' : (t.put j).1.tooFull = false := by simpa using htf
          rw [show (!false && (t.put j).1.tooFull) = false by rw [htf']; rfl, if_neg Bool.false_ne_true]
          exact wpAny_pure (q h1 tk sb1 S1)
      · cases hst
    · cases hst
end
end L2
namespace L2
open PySem PySem.Spec PyProof.Rows PySem.W
section
variable {prog : Program} {w : World} {A : Around} {E : Value→Shared→Prop} {s : Shared} {S Ia l : Addr} {R : Result→Shared→Prop}
def fP (h : Heap) (vs : List Value) (ys : List (Int × Int)) : Prop:=vs.length = ys.length∧∀ i v,vs[i]? = some v→∃ a o n t u,v = .ref a∧h.get? a = some o∧o.cls = .type "tuple" ∧ o.data = .seq #[.int (ys.getD i (0,0)).1 t,.int (ys.getD i (0,0)).2 u] n
theorem fP.keeps {h h' : Heap} {vs : List Value} {ys : List (Int × Int)} (p : fP h vs ys) (k : ∀ b o,(∃ xs n,o.data = .seq xs n)→h.get? b = some o→h'.get? b = some o) : fP h' vs ys :=
 ⟨p.1,fun i v e=>let ⟨a,o,n,t,u,e1,e2,c,d⟩:=p.2 i v e; ⟨a,o,n,t,u,e1,k a o ⟨_,_,d⟩ e2,c,d⟩⟩
def dI (prog : Program) (w : World) (y : Int × Int) : Int:=tupleKeyHash (intKind prog w) [y.1,y.2]
theorem aBB {vs : List Value} {ys : List (Int × Int)} {hsN : Array Int} {tN : SetTable} (hh : A.handled = none) (hu : A.units + 1 < cLine) (hlS : l ≠ S) (hlI : l ≠ Ia) (hSI : S ≠ Ia) :
  ∀ (k i : Nat) (s : Shared) (hs : Array Int) (t : SetTable),vs.length - i = k→i ≤ vs.length→s.heap.IsListIter Ia l i→s.heap.IsList l vs.toArray→fP s.heap vs ys→fH s.heap S hs t →
   ((ys.drop i).map (dI prog w)).foldlM (fun q h=>dU q.1 q.2 h) (hs,t) = some (hsN,tN) →
   (∀ h' tk,(∀ b o,b ≠ S→b ≠ Ia→s.heap.get? b = some o→h'.get? b = some o)→fH h' S hsN tN→R (.ok (.ret .none)) { s with heap:=h',toks:=tk }) →
   codeAny (model prog w) A (.builtin "set.update.loop" ⟨[.ref S,.ref Ia],[]⟩) R s:=by
 intro k
 induction k with
 | zero =>
  intro i s hs t hk hi hit hl hp hS hf hR
  have e : i = vs.length:=by omega
  refine codeAny_builtin PyProof.Rows.F.entry_set_update_loop ?_
  rw [Around.under_plainId PyProof.Rows.F.plain_set_update_loop _]
  show wpAny _ A.in1 (pyNext (.ref Ia) >>= _) _ _ s
  refine wpAny_bind (wpAny_pyNext_list_end (show A.in1.handled = none from hh) hit hl (by simp; omega) fun h' eb=>?_)
  show wpAny _ A.in1 (ret Value.none) _ _ _
  have hd : ys.drop i = []:=by rw [List.drop_eq_nil_iff]; have:=hp.1; omega
  rw [hd] at hf
  cases hf
  obtain ⟨o,es,ep,q1,q2⟩:=hS
  exact wpAny_pure (hR h' s.toks (fun b o hb hbI e=>eb b o hbI e) ⟨o,es,ep,eb S o hSI q1,q2⟩)
 | succ k ih =>
  intro i s hs t hk hi hit hl hp hS hf hR
  have hlt : i < vs.length:=by omega
  refine codeAny_builtin PyProof.Rows.F.entry_set_update_loop ?_
  rw [Around.under_plainId PyProof.Rows.F.plain_set_update_loop _]
  show wpAny _ A.in1 (pyNext (.ref Ia) >>= _) _ _ s
  have hv : vs[i]? = some vs[i]:=List.getElem?_eq_getElem hlt
  refine wpAny_bind (wpAny_pyNext_list_item hit hl (x:=vs[i]) (by simpa using hv) fun h1 hit1 sb1=>?_)
  obtain ⟨a,o,n,tx,ty,ea,eo,ec,ed⟩:=hp.2 i _ hv
  rw [ea]
  have neI : ∀ b ob,(∃ xs n,ob.data = .seq xs n)→s.heap.get? b = some ob→b ≠ Ia:=fun b ob ⟨xs,m,z⟩ e z'=>by
   obtain ⟨oi,e1,_,d1⟩:=hit
   rw [z',e1] at e; cases e
   rw [d1] at z; cases z
  have hp1 : fP h1 vs ys:=hp.keeps fun b ob hb e=>(sb1.2 b (neI b ob hb e)).trans e
  have hS1 : fH h1 S hs t:=by
   obtain ⟨oS,es,ep,q1,q2⟩:=hS
   exact ⟨oS,es,ep,(sb1.2 S hSI).trans q1,q2⟩
  have hl1 : h1.IsList l vs.toArray:=by
   obtain ⟨ol,q1,q2⟩:=hl
   exact ⟨ol,(sb1.2 l hlI).trans q1,q2⟩
  have eo1 : h1.get? a = some o:=(sb1.2 a (neI a o ⟨_,_,ed⟩ eo)).trans eo
  have neS : ∀ b ob,(∃ xs n,ob.data = .seq xs n)→h1.get? b = some ob→b ≠ S:=fun b ob ⟨xs,m,z⟩ e z'=>by
   obtain ⟨oS,es,ep,q1,_,_,q4,_⟩:=hS1
   rw [z',q1] at e; cases e
   rw [q4] at z; cases z
  have hi2 : i < ys.length:=by have:=hp.1; omega
  have hdr : ys.drop i = ys[i] :: ys.drop (i + 1):=List.drop_eq_getElem_cons hi2
  have hgy : ys.getD i (0,0) = ys[i]:=by rw [List.getD_eq_getElem?_getD,List.getElem?_eq_getElem hi2]; rfl
  rw [hdr,List.map_cons,List.foldlM_cons] at hf
  cases hst : dU hs t (dI prog w ys[i]) with
  | none=>rw [hst] at hf; cases hf
  | some q =>
   obtain ⟨hs2,t2⟩:=q
   rw [hst] at hf
   have hf2 : ((ys.drop (i + 1)).map (dI prog w)).foldlM (fun q h=>dU q.1 q.2 h) (hs2,t2) = some (hsN,tN):=hf
   show wpAny _ A.in1 (holding [Value.ref a] (setAdd S (.ref a)) >>= _) _ _ _
   refine wpAny_bind (wpAny_holding (aCN (s:={ s with heap:=h1 }) (by show A.units + 1 < cLine; exact hu) hS1 eo1 ec ed (neS a o ⟨_,_,ed⟩ eo1) (hs':=hs2) (t':=t2) (by rw [hgy]; exact hst) fun h2 tk sb2 S2=>?_))
   refine wpAny_pure ⟨plainId_quiet PyProof.Rows.F.plain_set_update_loop _,?_⟩
   refine ih (i + 1) { s with heap:=h2,toks:=tk } hs2 t2 (by omega) hlt ?_ ?_ (hp1.keeps fun b ob hb e=>(sb2.2 b (neS b ob hb e)).trans e) S2 hf2 fun h3 tk3 k3 S3=>?_
   ·obtain ⟨oi,q1,q2⟩:=hit1
    exact ⟨oi,(sb2.2 Ia (Ne.symm hSI)).trans q1,q2⟩
   ·obtain ⟨ol,q1,q2⟩:=hl1
    exact ⟨ol,(sb2.2 l hlS).trans q1,q2⟩
   ·exact hR h3 tk3 (fun b ob hb hbI e=>k3 b ob hb hbI ((sb2.2 b hb).trans ((sb1.2 b hbI).trans e))) S3
theorem aBC {vs : List Value} {ys : List (Int × Int)} {hsN : Bool→Array Int} {tN : Bool→SetTable} {Q : Value→Shared→Prop} (hh : A.handled = none) (hu : A.units + 8 < cLine) (hl : s.heap.IsList l vs.toArray) (hp : fP s.heap vs ys)
  (hrun : ∀ led,oI led (ys.map (dI prog w)) = some (hsN led,tN led))
  (h : ∀ (led : Bool) (h' : Heap) (tk : Nat),fH h' s.heap.objs.size (hsN led) (tN led)→(∀ b o,b < s.heap.objs.size→s.heap.get? b = some o→h'.get? b = some o)→Q (.ref s.heap.objs.size) { s with heap:=h',toks:=tk }) :
  wpAny (model prog w) A (call (.type "set") [.ref l]) Q E s:=by
 obtain ⟨c,tl,hmro⟩:=PySem.F.called_set.mro
 have c1:=PySem.F.called_set.made
 have c2:=PySem.F.called_set.sub
 refine wpAny_call (codeAny_of_tree ?_)
 show wpAny _ _ (callAny (.type "set") _) _ _ _
 refine wpAny_pure ⟨Code.quiet_builtin _ (by decide +kernel),codeAny_builtin PySem.F.entry_type_call ?_⟩
 rw [Around.under_plain (weight_type_call_type "set" [.ref l] []) rfl]
 have c3:=PySem.F.called_set.notType
 have c4:=PySem.F.called_set.canCreate
 have c5:=PySem.F.typeCall_set_1 (.ref l)
 repeat (any_goals (first | assumption | wp_step))
 refine codeAny_mono (code_set_new_1 (.ref l) (E:=E) (Q₁:=fun obj s₁=>∃ led : Bool,obj = .ref s.heap.objs.size∧s₁ = { s with heap:=s.heap.push { cls:=.type "set",dict:=none,data:=.set #[] 0 (.fresh 0 0 led) } }) fun led=>⟨led,rfl,rfl⟩) fun r s₁ hr=>?_
 cases r with
 | error e=>exact hr
 | ok fl =>
  cases fl with
  | next=>exact hr.elim
  | brk=>exact hr.elim
  | cont=>exact hr.elim
  | ret obj =>
   obtain ⟨led,rfl,rfl⟩:=hr
   generalize hpu : s.heap.push { cls:=.type "set",dict:=none,data:=.set #[] 0 (.fresh 0 0 led) } = hS
   have hsz : hS.objs.size = s.heap.objs.size + 1:=by rw [← hpu,Heap.size_push]
   have gS : hS.get? s.heap.objs.size = some { cls:=.type "set",dict:=none,data:=.set #[] 0 (.fresh 0 0 led) }:=by rw [← hpu]; exact Heap.get?_push_size _ rfl
   have up : ∀ b o,s.heap.get? b = some o→hS.get? b = some o:=fun b o e=>by rw [← hpu]; exact Heap.get?_push_of_some _ e
   have hT : Shared.TypeIs { s with heap:=hS } (.ref s.heap.objs.size) "set" := ⟨_,gS,rfl⟩
   have c6:=PySem.F.called_set.init.lookup
   have c7:=PySem.F.called_set.init.bind (.ref s.heap.objs.size)
   repeat (any_goals (first | assumption | wp_step))
   refine codeAny_mono (codeAny_call_builtin (R:=wants (fun r s₂=>r = .none∧∃ h' tk,s₂ = { s with heap:=h',toks:=tk }∧fH h' s.heap.objs.size (hsN led) (tN led) ∧
     (∀ b o,b < s.heap.objs.size→s.heap.get? b = some o→h'.get? b = some o)) E) PySem.F.called_set.init.plain PySem.F.entry_set_init (check_set_init_1 hT ?_)) fun r₂ s₂ hr₂=>?_
   ·obtain ⟨ol,hol,hcl,nl,hdl⟩:=hl
    obtain ⟨ocls,odict,odata,oslots⟩:=ol
    simp only at hcl hdl
    subst hcl; subst hdl
    have hol':=up _ _ hol
    have c8:=PySem.F.sub_list_set
    have c9:=PySem.F.sub_list_frozenset
    have c10 : (Value.type "list" == Value.type "dict") = false:=by decide
    have hl1 : hS.IsList l vs.toArray:=⟨_,hol',rfl,nl,rfl⟩
    unfold Builtin.«set.__init__» noKeywords Builtin.Frozenset.updateFrom
    generalize hPI : pyIter = PI
    wp_walk
    subst hPI
    refine wpAny_pyIter_list hl1 ?_
    refine wpAny_bind (wpAny_runValue ?_)
    have hlt : l < s.heap.objs.size:=Heap.lt_size hol
    refine aBB (l:=l) (vs:=vs) (ys:=ys) (hsN:=hsN led) (tN:=tN led) (by simp [hh]) (by simp; omega) (Nat.ne_of_lt hlt) (by rw [hsz]; exact Nat.ne_of_lt (Nat.lt_succ_of_lt hlt)) (by rw [hsz]; exact Nat.ne_of_lt (Nat.lt_succ_self _))
     (vs.length - 0) 0 _ #[] (.fresh 0 0 led) rfl (Nat.zero_le _) ⟨_,Heap.get?_push_size _ rfl,rfl,rfl⟩ (hl1.push _) (hp.keeps fun b o _ e=>Heap.get?_push_of_some _ (up b o e)) ⟨_,#[],0,Heap.get?_push_of_some _ gS,rfl,⟨rfl,rfl⟩,rfl,by simp,rfl⟩ (hrun led) fun h' tk k S'=>?_
    show wpAny _ _ _ _ _ _
    refine wpAny_pure ?_
    show wpAny _ _ (ret Value.none) _ _ _
    refine wpAny_pure ⟨rfl,h',tk,rfl,S',fun b o hb e=>?_⟩
    exact k b o (Nat.ne_of_lt hb) (by rw [hsz]; exact Nat.ne_of_lt (Nat.lt_succ_of_lt hb)) (Heap.get?_push_of_some _ (up b o e))
   ·cases r₂ with
    | error e=>exact hr₂
    | ok fl₂ =>
     cases fl₂ with
     | next=>exact hr₂.elim
     | brk=>exact hr₂.elim
     | cont=>exact hr₂.elim
     | ret r =>
      obtain ⟨rfl,h',tk,rfl,S',k⟩:=hr₂
      repeat (any_goals (first | assumption | wp_step))
      exact h led h' tk S' k
end
end L2
namespace L2
open PySem
def aAh (l : List Nat) : Nat:=l.foldl (fun a x=>a ||| (1 <<< x)) 0
theorem aAi (l : List Nat) (a j : Nat) : (l.foldl (fun a x=>a ||| (1 <<< x)) a).testBit j = (a.testBit j || l.contains j):=by
 induction l generalizing a with
 | nil=>simp
 | cons x xs ih =>
  rw [List.foldl_cons,ih,Nat.testBit_or,List.contains_cons]
  have : (1 <<< x).testBit j = (j == x):=by
   rw [Nat.one_shiftLeft,Nat.testBit_two_pow]
   by_cases h : x = j
   ·simp [h]
   ·have h' : ¬ j = x:=fun e=>h e.symm
    simp [h,h']
  rw [this,Bool.or_assoc]
theorem mP {l : List Nat} {n j : Nat} (h : aAh l = 2 ^ n - 1) (hj : j < n) : j∈l:=by
 have e:=aAi l 0 j
 have h' : l.foldl (fun a x=>a ||| (1 <<< x)) 0 = 2 ^ n - 1:=h
 rw [h',Nat.testBit_two_pow_sub_one] at e
 simp [hj] at e
 exact e
def orb (M : Nat) : Nat→Nat→Nat
 | 0,i=>i
 | n + 1,i=>orb M n ((i * 5 + 1) % M)
theorem lT (M a : Nat) : ∀ b i,orb M (b + a) i = orb M a (orb M b i)
 | 0,i=>by rw [Nat.zero_add]; rfl
 | b + 1,i=>by
  rw [show b + 1 + a = (b + a) + 1 by omega]
  show orb M (b + a) _ = orb M a (orb M b _)
  exact lT M a b _
def orbL (M : Nat) : Nat→Nat→List Nat
 | 0,_=>[]
 | n + 1,i=>i :: orbL M n ((i * 5 + 1) % M)
theorem mZ {M j : Nat} : ∀ {n i},j∈orbL M n i→∃ k,k < n∧orb M k i = j
 | 0,_,h=>by cases h
 | n + 1,i,h=>by
  rcases List.mem_cons.mp h with z | z
  ·exact ⟨0,by omega,z.symm⟩
  ·obtain ⟨k,a,b⟩:=mZ z
   exact ⟨k + 1,by omega,b⟩
structure Rnd (M : Nat) : Prop where
 all : aAh (orbL M M 0) = 2 ^ M - 1
 back : orb M M 0 = 0
theorem rnd8 : Rnd 8:=⟨by decide +kernel,by decide +kernel⟩
theorem aCg : Rnd 32:=⟨by decide +kernel,by decide +kernel⟩
theorem aAj : Rnd 128:=⟨by decide +kernel,by decide +kernel⟩
theorem aAk : Rnd 512:=⟨by decide +kernel,by decide +kernel⟩
theorem Rnd.cover {M : Nat} (R : Rnd M) {i j : Nat} (hi : i < M) (hj : j < M) : ∃ n,n < M∧orb M n i = j:=by
 obtain ⟨a,ha,ea⟩:=mZ (mP R.all hi)
 obtain ⟨b,hb,eb⟩:=mZ (mP R.all hj)
 by_cases h : a ≤ b
 ·refine ⟨b - a,by omega,?_⟩
  rw [← ea,← lT,show a + (b - a) = b by omega,eb]
 ·refine ⟨M + b - a,by omega,?_⟩
  rw [← ea,← lT,show a + (M + b - a) = M + b by omega,lT,R.back,eb]
def dF (mask : Nat) : Nat→Nat × Nat→Nat × Nat
 | 0,q=>q
 | n + 1,q=>dF mask n (SetTable.leap mask q.1 q.2)
theorem qX (m a : Nat) : ∀ b q,dF m (b + a) q = dF m a (dF m b q)
 | 0,q=>by rw [Nat.zero_add]; rfl
 | b + 1,q=>by
  rw [show b + 1 + a = (b + a) + 1 by omega]
  exact qX m a b _
theorem sW {m : Nat} : ∀ {n : Nat} {q : Nat × Nat},q.1 < m + 1→(dF m n q).1 < m + 1
 | 0,_,h=>h
 | n + 1,q,h=>sW (n:=n) (Nat.mod_lt _ (Nat.succ_pos _))
theorem vX {m : Nat} : ∀ {n : Nat} {q : Nat × Nat},(dF m n q).2 = q.2 / 32 ^ n
 | 0,_=>by simp [dF]
 | n + 1,q=>by
  show (dF m n _).2 = _
  rw [vX]
  show q.2 / 32 / 32 ^ n = _
  rw [Nat.div_div_eq_div_mul,Nat.pow_succ,Nat.mul_comm]
theorem qY {m : Nat} : ∀ {n i : Nat},dF m n (i,0) = (orb (m + 1) n i,0)
 | 0,_=>rfl
 | n + 1,i=>by
  show dF m n (SetTable.leap m i 0) = _
  unfold SetTable.leap
  simp only [Nat.zero_div,Nat.add_zero]
  exact qY
theorem mQ {m : Nat} (R : Rnd (m + 1)) {i p j : Nat} (hi : i < m + 1) (hp : p < 2 ^ 64) (hj : j < m + 1) : ∃ n,n < m + 14∧(dF m n (i,p)).1 = j:=by
 have h1:=sW (m:=m) (n:=13) (q:=(i,p)) hi
 have h2 : (dF m 13 (i,p)).2 = 0:=by
  rw [vX]
  exact Nat.div_eq_of_lt (Nat.lt_of_lt_of_le hp (by decide))
 obtain ⟨n,hn,e⟩:=R.cover h1 hj
 refine ⟨13 + n,by omega,?_⟩
 rw [qX]
 have : dF m 13 (i,p) = ((dF m 13 (i,p)).1,0):=Prod.ext rfl h2
 rw [this,qY]
 exact e
theorem vY (h : Int) : SetTable.bits h < 2 ^ 64:=by
 unfold SetTable.bits
 have a:=Int.emod_nonneg h (show (2 ^ 64 : Int) ≠ 0 by decide)
 have b:=Int.emod_lt_of_pos h (show (0 : Int) < 2 ^ 64 by decide)
 omega
theorem aEA {M : Nat} {l : List Nat} (h : l.length < M) : ∃ j,j < M∧j ∉ l:=by
 have key : ∀ (a b : List Nat),a.Nodup→(∀ x∈a,x∈b)→a.length ≤ b.length:=by
  intro a
  induction a with
  | nil=>intro b _ _; exact Nat.zero_le _
  | cons x xs ih =>
   intro b hn hs
   obtain ⟨h1,h2⟩:=List.nodup_cons.mp hn
   have hx : x∈b:=hs x List.mem_cons_self
   have:=ih (b.erase x) h2 fun y hy=>(List.mem_erase_of_ne (fun (e : y = x)=>h1 (e ▸ hy))).mpr (hs y (List.mem_cons_of_mem _ hy))
   rw [List.length_erase_of_mem hx] at this
   have : 0 < b.length:=List.length_pos_of_mem hx
   rw [List.length_cons]
   omega
 apply Classical.byContradiction
 intro hno
 have:=key (List.range M) l List.nodup_range fun x hx=>Classical.byContradiction fun hx'=>hno ⟨x,List.mem_range.mp hx,hx'⟩
 rw [List.length_range] at this
 omega
def sX (mask i p : Nat) : SetTable.Probe:={ j:=i,more:=SetTable.runEnd mask i - i,i:=i,perturb:=p,dummy:=none }
theorem aDX (mask i : Nat) : SetTable.runEnd mask i - i ≤ 9:=by unfold SetTable.runEnd; split <;> omega
theorem pM {t : SetTable} (hd : t.dummies = #[]) (j : Nat) : t.slot j = .empty∨∃ i,t.slot j = .live i∧t.place[i]? = some j:=by
 unfold SetTable.slot
 dsimp only
 split
 ·rename_i h
  exact .inr ⟨_,rfl,by simpa using h⟩
 ·left
  rw [hd]
  rfl
theorem yA {t : SetTable} (hd : t.dummies = #[]) {j : Nat} (h : j ∉ t.place.toList) : t.slot j = .empty:=by
 rcases pM hd j with e | ⟨i,_,e2⟩
 ·exact e
 ·exact absurd (by rw [← Array.getElem?_toList] at e2; exact List.mem_of_getElem? e2) h
section
variable {t : SetTable} {hashAt : Nat→Int} {h : Int}
theorem aAl (hd : t.dummies = #[]) (hh : ∀ i,i < t.place.size→hashAt i ≠ h) (i p : Nat) : ∀ (r : Nat) (j fuel : Nat),
  (∃ j',SetTable.probe.go t hashAt h (fuel + r + 1) { j:=j,more:=r,i:=i,perturb:=p,dummy:=none } = some (.empty j' none)) ∨
  SetTable.probe.go t hashAt h (fuel + r + 1) { j:=j,more:=r,i:=i,perturb:=p,dummy:=none } = SetTable.probe.go t hashAt h fuel (sX t.mask (SetTable.leap t.mask i p).1 (SetTable.leap t.mask i p).2)
 | 0,j,fuel=>by
  rcases pM hd j with e | ⟨k,e,e2⟩
  ·exact .inl ⟨j,by unfold SetTable.probe.go; rw [e]⟩
  ·right
   have hk : k < t.place.size:=(Array.getElem?_eq_some_iff.mp e2).1
   conv=>lhs; unfold SetTable.probe.go
   rw [e]
   simp only [beq_iff_eq,hh k hk,if_false]
   rfl
 | r + 1,j,fuel=>by
  rcases pM hd j with e | ⟨k,e,e2⟩
  ·exact .inl ⟨j,by rw [show fuel + (r + 1) + 1 = (fuel + r + 1) + 1 by omega]; unfold SetTable.probe.go; rw [e]⟩
  ·have hk : k < t.place.size:=(Array.getElem?_eq_some_iff.mp e2).1
   have st : SetTable.probe.go t hashAt h (fuel + (r + 1) + 1) { j:=j,more:=r + 1,i:=i,perturb:=p,dummy:=none } = SetTable.probe.go t hashAt h (fuel + r + 1) { j:=j + 1,more:=r,i:=i,perturb:=p,dummy:=none }:=by
    rw [show fuel + (r + 1) + 1 = (fuel + r + 1) + 1 by omega]
    conv=>lhs; unfold SetTable.probe.go
    rw [e]
    simp only [beq_iff_eq,hh k hk,if_false]
    rfl
   rw [st]
   exact aAl hd hh i p r (j + 1) fuel
theorem vZ (hd : t.dummies = #[]) (hh : ∀ i,i < t.place.size→hashAt i ≠ h) : ∀ (m : Nat) (i p fuel : Nat),10 * (m + 1) ≤ fuel→t.slot (dF t.mask m (i,p)).1 = .empty →
  ∃ j',SetTable.probe.go t hashAt h fuel (sX t.mask i p) = some (.empty j' none)
 | 0,i,p,fuel,hf,e=>by
  obtain ⟨f,rfl⟩ : ∃ f,fuel = f + 1:=⟨fuel - 1,by omega⟩
  refine ⟨i,?_⟩
  have e' : t.slot i = .empty:=e
  unfold SetTable.probe.go sX
  dsimp only
  rw [e']
 | m + 1,i,p,fuel,hf,e=>by
  have hr:=aDX t.mask i
  obtain ⟨f,hf'⟩ : ∃ f,fuel = f + (SetTable.runEnd t.mask i - i) + 1:=⟨fuel - (SetTable.runEnd t.mask i - i) - 1,by omega⟩
  rcases aAl (hashAt:=hashAt) (h:=h) hd hh i p (SetTable.runEnd t.mask i - i) i f with z | z
  ·rw [hf']; exact z
  ·rw [hf']
   show ∃ j',SetTable.probe.go t hashAt h _ { j:=i,more:=_,i:=i,perturb:=p,dummy:=none } = _
   rw [z]
   exact vZ hd hh m _ _ f (by omega) e
theorem yB (R : Rnd (t.mask + 1)) (hd : t.dummies = #[]) (hs : t.place.size ≤ t.mask) (hh : ∀ i,i < t.place.size→hashAt i ≠ h) : ∃ j,t.probe hashAt h (t.probeStart h) = some (.empty j none):=by
 obtain ⟨j,hj,hn⟩:=aEA (M:=t.mask + 1) (l:=t.place.toList) (by simpa using Nat.lt_succ_of_le hs)
 obtain ⟨m,hm,e⟩:=mQ R (Nat.mod_lt (SetTable.bits h) (Nat.succ_pos t.mask)) (vY h) hj
 refine vZ hd hh m _ _ _ ?_ (by rw [e]; exact yA hd hn)
 unfold SetTable.turns
 omega
end
theorem aAm {α β : Type} {f : α→Option β} : ∀ {l : List α},(∀ q∈l,(f q).isSome = true)→(l.filterMap f).length = l.length
 | [],_=>rfl
 | q :: l,h=>by
  have hq:=h q List.mem_cons_self
  cases e : f q with
  | none=>rw [e] at hq; cases hq
  | some b=>rw [List.filterMap_cons_some e,List.length_cons,List.length_cons,aAm fun x hx=>h x (List.mem_cons_of_mem _ hx)]
theorem qZ {mask : Nat} {owner : Array (Option Nat)} : ∀ (m fuel i p : Nat),m < fuel→owner.getD (dF mask m (i,p)).1 (some 0) = none→∃ j,SetTable.layClean.free mask owner fuel i p = some j∧owner.getD j (some 0) = none
 | m,0,_,_,h,_=>by omega
 | m,fuel + 1,i,p,h,e=>by
  unfold SetTable.layClean.free
  cases hf : (List.range (SetTable.runEnd mask i + 1 - i)).find? fun k=>(owner.getD (i + k) (some 0)).isNone with
  | some k =>
   refine ⟨i + k,rfl,?_⟩
   have:=List.find?_some hf
   simpa using this
  | none =>
   cases m with
   | zero =>
    have h0 : (0 : Nat)∈List.range (SetTable.runEnd mask i + 1 - i):=List.mem_range.mpr (by unfold SetTable.runEnd; split <;> omega)
    have:=List.find?_eq_none.mp hf 0 h0
    have e' : owner.getD i (some 0) = none:=e
    rw [Nat.add_zero,e'] at this
    exact absurd rfl this
   | succ m =>
    exact qZ m fuel _ _ (by omega) e
structure Laid (M : Nat) (owner : Array (Option Nat)) (k : Nat) : Prop where
 size : owner.size = M
 cnt : owner.toList.countP Option.isSome = k
 lt : ∀ x,some x∈owner.toList→x < k
theorem yC {l : List (Option Nat)} {j : Nat} {x : Nat} (hj : l[j]? = some none) : (l.set j (some x)).countP Option.isSome = l.countP Option.isSome + 1:=by
 induction l generalizing j with
 | nil=>cases hj
 | cons a l ih =>
  cases j with
  | zero =>
   obtain rfl : a = none:=by simpa using hj
   simp
  | succ j =>
   rw [List.set_cons_succ,List.countP_cons,List.countP_cons,ih (by simpa using hj)]
   omega
theorem Laid.one {mask : Nat} {owner : Array (Option Nat)} {k : Nat} (L : Laid (mask + 1) owner k) (R : Rnd (mask + 1)) (hk : k < mask + 1) (h : Int) :
  ∃ j,SetTable.layClean.free mask owner (SetTable.turns mask) (SetTable.bits h % (mask + 1)) (SetTable.bits h) = some j∧Laid (mask + 1) (owner.setIfInBounds j (some k)) (k + 1):=by
 have hno : ∃ j,j < mask + 1∧owner.toList[j]? = some none:=by
  apply Classical.byContradiction
  intro hno
  have hall : ∀ x∈owner.toList,x.isSome = true:=by
   intro x hx
   obtain ⟨j,hj,e⟩:=List.mem_iff_getElem.mp hx
   cases x with
   | some _=>rfl
   | none =>
    refine absurd ⟨j,?_,?_⟩ hno
    ·rw [← L.size]; simpa using hj
    ·rw [List.getElem?_eq_getElem hj,e]
  have:=List.countP_eq_length.mpr hall
  rw [L.cnt,Array.length_toList,L.size] at this
  omega
 obtain ⟨j0,hj0,e0⟩:=hno
 obtain ⟨m,hm,em⟩:=mQ R (Nat.mod_lt (SetTable.bits h) (Nat.succ_pos mask)) (vY h) hj0
 obtain ⟨j,ej,en⟩:=qZ (mask:=mask) (owner:=owner) m (SetTable.turns mask) (SetTable.bits h % (mask + 1)) (SetTable.bits h) (by unfold SetTable.turns; omega)
  (by rw [em,Array.getD_eq_getD_getElem?,← Array.getElem?_toList,e0]; rfl)
 refine ⟨j,ej,?_⟩
 have hjn : owner.toList[j]? = some none:=by
  rw [Array.getD_eq_getD_getElem?,← Array.getElem?_toList] at en
  cases hq : owner.toList[j]? with
  | none=>rw [hq] at en; cases en
  | some v=>rw [hq] at en; rw [show v = none from en]
 have hset : (owner.setIfInBounds j (some k)).toList = owner.toList.set j (some k):=by simp
 refine ⟨by simp [L.size],by rw [hset,yC hjn,L.cnt],fun x hx=>?_⟩
 rw [hset] at hx
 rcases List.mem_or_eq_of_mem_set hx with z | z
 ·exact Nat.lt_succ_of_lt (L.lt x z)
 ·cases z; exact Nat.lt_succ_self _
theorem wA {mask : Nat} (R : Rnd (mask + 1)) : ∀ (l : List Int) (owner : Array (Option Nat)) (k : Nat),Laid (mask + 1) owner k→k + l.length ≤ mask →
  ∃ owner',l.foldl (fun acc h=>do
   let (owner,k) ← acc
   let j ← SetTable.layClean.free mask owner (SetTable.turns mask) (SetTable.bits h % (mask + 1)) (SetTable.bits h)
   pure (owner.setIfInBounds j (some k),k + 1)) (some (owner,k)) = some (owner',k + l.length)∧Laid (mask + 1) owner' (k + l.length)
 | [],owner,k,L,_=>⟨owner,rfl,L⟩
 | h :: l,owner,k,L,hl=>by
  rw [List.length_cons] at hl
  obtain ⟨j,ej,L'⟩:=L.one R (by omega) h
  obtain ⟨o',e,L2⟩:=wA R l _ _ L' (by omega)
  refine ⟨o',?_,by rw [List.length_cons,show k + (l.length + 1) = k + 1 + l.length by omega]; exact L2⟩
  rw [List.foldl_cons]
  have : (do
   let (owner,k) ← some (owner,k)
   let j ← SetTable.layClean.free mask owner (SetTable.turns mask) (SetTable.bits h % (mask + 1)) (SetTable.bits h)
   pure (owner.setIfInBounds j (some k),k + 1) : Option (Array (Option Nat) × Nat)) = some (owner.setIfInBounds j (some k),k + 1):=by
   show (SetTable.layClean.free mask owner (SetTable.turns mask) (SetTable.bits h % (mask + 1)) (SetTable.bits h)).bind _ = _
   rw [ej]; rfl
  rw [this,e,List.length_cons,show k + (l.length + 1) = k + 1 + l.length by omega]
theorem vC {mask : Nat} (R : Rnd (mask + 1)) (hs : Array Int) (h : hs.size ≤ mask) : ∃ owner,SetTable.layClean mask hs = some owner∧Laid (mask + 1) owner hs.size:=by
 have L0 : Laid (mask + 1) (Array.replicate (mask + 1) none) 0:=⟨by simp,by simp [List.countP_replicate],fun x hx=>by simp at hx⟩
 obtain ⟨o,e,L⟩:=wA R hs.toList _ 0 L0 (by simpa using h)
 refine ⟨o,?_,by simpa using L⟩
 unfold SetTable.layClean
 rw [← Array.foldl_toList]
 have e':=congrArg (Option.map (·.1)) e
 exact e'
theorem yD {M n : Nat} {owner : Array (Option Nat)} (L : Laid M owner n) :
  ((List.range M).filterMap fun j=>(owner.getD j none).map (j,·)).length = n∧∀ q∈(List.range M).filterMap (fun j=>(owner.getD j none).map (j,·)),q.2 < n:=by
 constructor
 ·rw [← L.cnt]
  have e : owner.toList = (List.range M).map fun j=>owner.getD j none:=by
   apply List.ext_getElem
   ·simp [L.size]
   ·intro i h1 h2
    simp only [List.getElem_map,List.getElem_range,Array.getElem_toList]
    rw [Array.getD_eq_getD_getElem?,Array.getElem?_eq_getElem (by simpa using h1)]
    rfl
  conv=>rhs; rw [e]
  rw [List.countP_map]
  generalize List.range M = l
  induction l with
  | nil=>rfl
  | cons a l ih =>
   rw [List.countP_cons,← ih]
   cases hq : owner.getD a none with
   | none=>rw [List.filterMap_cons_none (by rw [hq]; rfl),show (Option.isSome ∘ fun j=>owner.getD j none) a = false by show (owner.getD a none).isSome = false; rw [hq]; rfl]; simp
   | some x=>rw [List.filterMap_cons_some (b:=(a,x)) (by rw [hq]; rfl),show (Option.isSome ∘ fun j=>owner.getD j none) a = true by show (owner.getD a none).isSome = true; rw [hq]; rfl]; simp
 ·intro q hq
  obtain ⟨j,_,e⟩:=List.mem_filterMap.mp hq
  cases hx : owner.getD j none with
  | none=>rw [hx] at e; cases e
  | some x =>
   rw [hx] at e
   cases e
   refine L.lt x ?_
   rw [Array.getD_eq_getD_getElem?,← Array.getElem?_toList] at hx
   cases hy : owner.toList[j]? with
   | none=>rw [hy] at hx; cases hx
   | some v=>rw [hy] at hx; obtain rfl : v = some x:=hx; exact List.mem_of_getElem? hy
structure oJ (hs : Array Int) (t : SetTable) : Prop where
 dm : t.dummies = #[]
 sz : t.place.size = hs.size
 ms : (t.mask = 7∧hs.size ≤ 4)∨(t.mask = 31∧hs.size ≤ 18)∨(t.mask = 127∧hs.size ≤ 76)∨(t.mask = 511∧hs.size ≤ 306)
theorem oJ.rnd {hs : Array Int} {t : SetTable} (T : oJ hs t) : Rnd (t.mask + 1):=by
 rcases T.ms with ⟨e,_⟩ | ⟨e,_⟩ | ⟨e,_⟩ | ⟨e,_⟩ <;> rw [e]
 ·exact rnd8
 ·exact aCg
 ·exact aAj
 ·exact aAk
theorem kJ {α : Type} (xs : Array α) (p : Nat) (x : α) : (SetTable.insertAt xs p x).size = xs.size + 1:=by
 unfold SetTable.insertAt
 simp
 omega
theorem kZ {α : Type} {xs : Array α} {p : Nat} {x y : α} (h : y∈(SetTable.insertAt xs p x).toList) : y = x∨y∈xs.toList:=by
 unfold SetTable.insertAt at h
 rw [Array.toList_append,Array.toList_push,Array.toList_extract,Array.toList_extract] at h
 rcases List.mem_append.mp h with z | z
 ·rcases List.mem_append.mp z with z | z
  ·right
   rw [List.extract_eq_drop_take] at z
   exact List.mem_of_mem_drop (List.mem_of_mem_take z)
  ·left; simpa using z
 ·right
  rw [List.extract_eq_drop_take] at z
  exact List.mem_of_mem_drop (List.mem_of_mem_take z)
theorem yE {hs : Array Int} {t : SetTable} {h : Int} (T : oJ hs t) (hn : h ∉ hs.toList) (hl : hs.size < 300) : ∃ hs' t',dU hs t h = some (hs',t')∧oJ hs' t'∧hs'.size = hs.size + 1∧∀ x∈hs'.toList,x = h∨x∈hs.toList:=by
 have hle : t.place.size ≤ t.mask:=by rw [T.sz]; rcases T.ms with ⟨e,z⟩ | ⟨e,z⟩ | ⟨e,z⟩ | ⟨e,z⟩ <;> omega
 have hh : ∀ i,i < t.place.size→hAt hs i ≠ h:=by
  intro i hi e
  rw [T.sz] at hi
  unfold hAt at e
  rw [Array.getElem?_eq_getElem hi] at e
  exact hn (by rw [← e]; simp)
 obtain ⟨j,hp⟩:=yB (hashAt:=hAt hs) (h:=h) T.rnd T.dm hle hh
 have hg : t.gaveWay = false:=by
  unfold SetTable.gaveWay
  rcases T.ms with ⟨e,_⟩ | ⟨e,_⟩ | ⟨e,_⟩ | ⟨e,_⟩ <;> rw [e] <;> rfl
 have q1 : (t.put j).1.place = SetTable.insertAt t.place (SetTable.below t.place j) j:=rfl
 have q2 : (t.put j).1.dummies = #[]:=by
  show (if SetTable.has t.dummies j = true then _ else t.dummies) = _
  rw [T.dm]
  rfl
 have q3 : (t.put j).1.mask = t.mask:=rfl
 have s1 : (SetTable.insertAt hs (t.put j).2 h).size = hs.size + 1:=kJ _ _ _
 have s2 : (t.put j).1.place.size = hs.size + 1:=by rw [q1,kJ,T.sz]
 have fl : (t.put j).1.fill = hs.size + 1:=by unfold SetTable.fill; rw [s2,q2]; rfl
 have fit : (t.put j).1.fits (SetTable.insertAt hs (t.put j).2 h).size = true:=by
  unfold SetTable.fits
  rw [s1,s2,fl,q3]
  simp
  rcases T.ms with ⟨e,z⟩ | ⟨e,z⟩ | ⟨e,z⟩ | ⟨e,z⟩ <;> omega
 unfold dU
 rw [hg,if_neg Bool.false_ne_true,hp]
 dsimp only
 rw [if_pos (by rw [fit,s1]; simp; omega)]
 by_cases hf : (t.put j).1.tooFull = true
 ·rw [if_pos hf]
  have hf':=hf
  unfold SetTable.tooFull at hf'
  rw [fl,q3] at hf'
  have hf2 : (hs.size + 1) * 5 ≥ t.mask * 3:=by simpa using hf'
  have gr : SetTable.grown (hs.size + 1) = (hs.size + 1) * 4:=by unfold SetTable.grown; rw [if_neg (by omega)]
  obtain ⟨m2,em2,hm2,R2⟩ : ∃ m2,SetTable.sizeAbove (SetTable.grown (hs.size + 1)) = m2 + 1∧((m2 = 31∧hs.size + 1 ≤ 18)∨(m2 = 127∧hs.size + 1 ≤ 76)∨(m2 = 511∧hs.size + 1 ≤ 306))∧Rnd (m2 + 1):=by
   rw [gr]
   rcases T.ms with ⟨e,z⟩ | ⟨e,z⟩ | ⟨e,z⟩ | ⟨e,z⟩
   ·have : hs.size = 4:=by omega
    exact ⟨31,by rw [this]; rfl,.inl ⟨rfl,by omega⟩,aCg⟩
   ·have : hs.size = 18:=by omega
    exact ⟨127,by rw [this]; rfl,.inr (.inl ⟨rfl,by omega⟩),aAj⟩
   ·have : hs.size = 76:=by omega
    exact ⟨511,by rw [this]; rfl,.inr (.inr ⟨rfl,by omega⟩),aAk⟩
   ·omega
  have hm3 : (SetTable.insertAt hs (t.put j).2 h).size ≤ m2:=by rw [s1]; rcases hm2 with ⟨e,z⟩ | ⟨e,z⟩ | ⟨e,z⟩ <;> omega
  obtain ⟨owner,eo,L⟩:=vC R2 (SetTable.insertAt hs (t.put j).2 h) hm3
  obtain ⟨lv1,lv2⟩:=yD L
  rw [s1] at lv1 lv2
  generalize hlive : (List.range (m2 + 1)).filterMap (fun j=>(owner.getD j none).map (j,·)) = live at lv1 lv2
  have er : (t.put j).1.relaid (SetTable.insertAt hs (t.put j).2 h) (SetTable.grown (hs.size + 1)) = some ({ mask:=m2,place:=(live.map (·.1)).toArray,dummies:=#[],finger:=(t.put j).1.finger,led:=(t.put j).1.led,moves:=(t.put j).1.movedTo m2,plain:=(t.put j).1.plain },(live.map (·.2)).toArray):=by
   unfold SetTable.relaid SetTable.laid
   rw [em2]
   simp only [Nat.add_sub_cancel]
   rw [eo]
   show some _ = some _
   rw [← hlive]
  rw [er]
  dsimp only
  have hsz2 : ((live.map (·.2)).toArray.filterMap ((SetTable.insertAt hs (t.put j).2 h)[·]?)).size = hs.size + 1:=by
   rw [← Array.length_toList,Array.toList_filterMap]
   show ((live.map (·.2)).filterMap _).length = _
   rw [← lv1,List.filterMap_map]
   refine aAm fun q hq=>?_
   show ((SetTable.insertAt hs (t.put j).2 h)[q.2]?).isSome = true
   rw [Array.getElem?_eq_getElem (by rw [s1]; exact lv2 q hq)]
   rfl
  have emf : ∀ x,({ mask:=m2,place:=(live.map (·.1)).toArray,dummies:=#[],finger:=(t.put j).1.finger,led:=(t.put j).1.led,moves:=(t.put j).1.movedTo m2,plain:=(t.put j).1.plain } : SetTable).fits x = (decide (hs.size + 1 = x) && decide (hs.size + 1 ≤ m2)):=by
   intro x
   unfold SetTable.fits SetTable.fill
   simp [lv1]
   rw [Bool.eq_iff_iff]; simp
  rw [if_pos (by
   rw [hsz2,s1,emf,em2]
   have : hs.size + 1 ≤ m2:=by rw [← s1]; exact hm3
   simp [this]
   rcases hm2 with ⟨e,z⟩ | ⟨e,z⟩ | ⟨e,z⟩ <;> omega)]
  refine ⟨_,_,rfl,⟨rfl,?_,?_⟩,hsz2,fun x hx=>?_⟩
  ·rw [hsz2]; simp [lv1]
  ·rw [hsz2]; exact .inr hm2
  ·rw [Array.toList_filterMap] at hx
   obtain ⟨k,_,ek⟩:=List.mem_filterMap.mp hx
   refine kZ (p:=(t.put j).2) ?_
   rw [← Array.getElem?_toList] at ek
   exact List.mem_of_getElem? ek
 ·rw [if_neg hf]
  refine ⟨_,_,rfl,⟨q2,by rw [s2,s1],?_⟩,s1,fun x hx=>kZ hx⟩
  have hf' : ¬ (hs.size + 1) * 5 ≥ t.mask * 3:=by
   intro z
   refine hf ?_
   unfold SetTable.tooFull
   rw [fl,q3]
   simpa using z
  rw [s1,q3]
  rcases T.ms with ⟨e,z⟩ | ⟨e,z⟩ | ⟨e,z⟩ | ⟨e,z⟩ <;> omega
theorem mR : ∀ (l : List Int) (hs : Array Int) (t : SetTable),oJ hs t→(∀ x∈l,x ∉ hs.toList)→l.Nodup→hs.size + l.length ≤ 300→∃ hs' t',l.foldlM (fun q h=>dU q.1 q.2 h) (hs,t) = some (hs',t')∧hs'.size = hs.size + l.length
 | [],hs,t,_,_,_,_=>⟨hs,t,rfl,rfl⟩
 | h :: l,hs,t,T,hn,nd,hl=>by
  rw [List.length_cons] at hl
  obtain ⟨n1,n2⟩:=List.nodup_cons.mp nd
  obtain ⟨hs1,t1,e1,T1,z1,m1⟩:=yE T (hn h List.mem_cons_self) (by omega)
  obtain ⟨hs2,t2,e2,z2⟩:=mR l hs1 t1 T1 (fun x hx hy=>by
   rcases m1 x hy with e | e
   ·exact n1 (e ▸ hx)
   ·exact hn x (List.mem_cons_of_mem _ hx) e) n2 (by omega)
  refine ⟨hs2,t2,?_,by rw [z2,z1,List.length_cons]; omega⟩
  rw [List.foldlM_cons]
  show (dU hs t h).bind _ = _
  rw [e1]
  exact e2
theorem aAn (led : Bool) {l : List Int} (nd : l.Nodup) (hl : l.length ≤ 300) : ∃ hs t,oI led l = some (hs,t)∧hs.size = l.length:=by
 obtain ⟨hs,t,e,z⟩:=mR l #[] (SetTable.fresh 0 0 led) ⟨rfl,rfl,.inl ⟨rfl,by decide⟩⟩ (fun x _ h=>by simp at h) nd (by simpa using hl)
 exact ⟨hs,t,e,by simpa using z⟩
end L2
namespace L2
open PySem PySem.Spec PyProof.Rows PySem.W
def rO : List Nat→Nat→Bool
 | [],_=>true
 | x :: xs,acc=>bif Nat.testBit acc x then false else rO xs (acc ||| (1 <<< x))
theorem sY : ∀ (l : List Nat) (acc : Nat),rO l acc = true→l.Nodup∧∀ x∈l,acc.testBit x = false
 | [],_,_=>⟨List.nodup_nil,fun x h=>(nomatch h)⟩
 | x :: xs,acc,h=>by
  unfold rO at h
  cases hb : acc.testBit x with
  | true=>rw [hb] at h; cases h
  | false =>
   rw [hb] at h
   obtain ⟨nd,hx⟩:=sY xs _ h
   have hor : ∀ y∈xs,acc.testBit y = false∧y ≠ x:=by
    intro y hy
    have:=hx y hy
    rw [Nat.testBit_or,Nat.one_shiftLeft,Nat.testBit_two_pow] at this
    rw [Bool.or_eq_false_iff] at this
    exact ⟨this.1,fun e=>by have:=this.2; simp [e] at this⟩
   refine ⟨List.nodup_cons.mpr ⟨fun hm=>(hor x hm).2 rfl,nd⟩,fun y hy=>?_⟩
   rcases List.mem_cons.mp hy with z | z
   ·rw [z]; exact hb
   ·exact (hor y z).1
def nA : List (Int × Int):=(List.range 32).flatMap fun a=>(List.range 32).map fun b=>(Int.ofNat a,Int.ofNat b)
def aCh (h : Int) : Nat:=(h % 6554).toNat
theorem aAo (P : Program) (w : World) : rO (nA.map fun y=>aCh (dI P w y)) 0 = true:=by kernel_rfl
theorem wB {y : Int × Int} (h1 : 0 ≤ y.1∧y.1 < 32) (h2 : 0 ≤ y.2∧y.2 < 32) : y∈nA:=by
 unfold nA
 refine List.mem_flatMap.mpr ⟨y.1.toNat,List.mem_range.mpr (by omega),List.mem_map.mpr ⟨y.2.toNat,List.mem_range.mpr (by omega),Prod.ext ?_ ?_⟩⟩
 ·show ((y.1.toNat : Nat) : Int) = y.1; omega
 ·show ((y.2.toNat : Nat) : Int) = y.2; omega
theorem kK {α β : Type} {f : α→β} : ∀ {l : List α},(l.map f).Nodup→∀ x∈l,∀ y∈l,f x = f y→x = y
 | [],_,_,h,_,_,_=>by cases h
 | a :: l,h,x,hx,y,hy,e=>by
  rw [List.map_cons] at h
  obtain ⟨h1,h2⟩:=List.nodup_cons.mp h
  rcases List.mem_cons.mp hx with z | z <;> rcases List.mem_cons.mp hy with z' | z'
  ·rw [z,z']
  ·exact absurd (List.mem_map.mpr ⟨y,z',by rw [← e,z]⟩) h1
  ·exact absurd (List.mem_map.mpr ⟨x,z,by rw [e,z']⟩) h1
  ·exact kK h2 x z y z' e
theorem sZ {P : Program} {w : World} {x y : Int × Int} (hx : (0 ≤ x.1∧x.1 < 32)∧(0 ≤ x.2∧x.2 < 32)) (hy : (0 ≤ y.1∧y.1 < 32)∧(0 ≤ y.2∧y.2 < 32)) (e : dI P w x = dI P w y) : x = y :=
 kK (sY _ _ (aAo P w)).1 x (wB hx.1 hx.2) y (wB hy.1 hy.2) (congrArg aCh e)
theorem lA {α β : Type} {f : α→β} : ∀ {l : List α},l.Nodup→(∀ x∈l,∀ y∈l,f x = f y→x = y)→(l.map f).Nodup
 | [],_,_=>List.nodup_nil
 | a :: l,h,hf=>by
  obtain ⟨h1,h2⟩:=List.nodup_cons.mp h
  rw [List.map_cons]
  refine List.nodup_cons.mpr ⟨fun z=>?_,lA h2 fun x hx y hy=>hf x (List.mem_cons_of_mem _ hx) y (List.mem_cons_of_mem _ hy)⟩
  obtain ⟨y,hy,e⟩:=List.mem_map.mp z
  have:=hf y (List.mem_cons_of_mem _ hy) a List.mem_cons_self e
  exact h1 (this ▸ hy)
theorem vD {P : Program} {w : World} (led : Bool) {ys : List (Int × Int)} (nd : ys.Nodup) (hr : ∀ y∈ys,(0 ≤ y.1∧y.1 < 32)∧(0 ≤ y.2∧y.2 < 32)) (hl : ys.length ≤ 300) :
  ∃ hs t,oI led (ys.map (dI P w)) = some (hs,t)∧hs.size = ys.length:=by
 obtain ⟨hs,t,e,z⟩:=aAn led (lA nd fun x hx y hy e=>sZ (P:=P) (w:=w) (hr x hx) (hr y hy) e) (by rw [List.length_map]; exact hl)
 exact ⟨hs,t,e,by rw [z,List.length_map]⟩
end L2
namespace L2
open PySem PySem.Spec PyProof.Rows PySem.W
theorem wC : ∀ {as : List Addr} {its : List Value},Vals (as.map V.ref) its→its = as.map Value.ref
 | [],_,r=>by cases r; rfl
 | a :: as,_,r=>by
  cases r with
  | cons r rr =>
   obtain rfl:=(show _ = Value.ref a from r)
   rw [wC rr]; rfl
def setO (D : Addr) (n : Nat) : HO:=.ext fun h=>∃ hs t,fH h D hs t∧hs.size = n
section
variable {X : Cx}
def aEB (K : W.Frag) : List V→Hp→VK→Prop:=fun xs H Q=>∃ (l : Addr) (as : List Addr) (ys : List (Int × Int)),xs = [.ref l]∧SqL K H l (as.map V.ref)∧as.length = ys.length ∧
 (∀ i,i < ys.length→aAf K H (as.getD i 0) (ys.getD i (0,0)))∧ys.Nodup∧(∀ y∈ys,(0 ≤ y.1∧y.1 < 32)∧(0 ≤ y.2∧y.2 < 32))∧ys.length ≤ 300∧∀ D,H D = none→Q (.ref D) (upd H D (setO D ys.length))
theorem aAp (hc : X.calm = true) (hu : X.A.units + 8 < cLine) : cK X (.type "set") (aEB X.K):=by
 intro pins s σ H xs us Q I r h
 obtain ⟨l,as,ys,rfl,hl,hlen,hp,nd,rg,h3,q⟩:=h
 obtain ⟨u1,rfl,r1⟩:=r.one
 obtain rfl : u1 = Value.ref l:=r1
 obtain ⟨its,rv,pl,hz⟩:=I.list hl
 have e:=wC rv
 subst e
 have hpi : fP s.heap (as.map Value.ref) ys:=⟨by rw [List.length_map,hlen],fun i v hv=>by
  rw [List.getElem?_map] at hv
  cases ea : as[i]? with
  | none=>rw [ea] at hv; cases hv
  | some a =>
   rw [ea] at hv
   obtain rfl : Value.ref a = v:=Option.some.inj hv
   have hi : i < as.length:=(List.getElem?_eq_some_iff.mp ea).1
   obtain ⟨o,n,t,u,e1,c,d⟩:=xY I (hp i (by omega))
   have eg : as.getD i 0 = a:=by rw [List.getD_eq_getElem?_getD,ea]; rfl
   rw [eg] at e1
   exact ⟨a,o,n,t,u,rfl,e1,c,d⟩⟩
 have hrun : ∀ led,∃ q : Array Int × SetTable,oI led (ys.map (dI X.prog X.w)) = some q∧q.1.size = ys.length:=fun led =>
  let ⟨hs,t,e,z⟩:=vD (P:=X.prog) (w:=X.w) led nd rg h3; ⟨(hs,t),e,z⟩
 refine aBC (I.ok.hd hc) hu pl.isList hpi (hsN:=fun led=>(hrun led).choose.1) (tN:=fun led=>(hrun led).choose.2) (fun led=>(hrun led).choose_spec.1) fun led h' tk S' k=>?_
 refine ⟨.ref s.heap.objs.size,_,I.laidN (t':=tk) (o:=setO s.heap.objs.size ys.length) (fun b u e=>k b u (Heap.lt_size e) e) (Heap.get?_none_of_le (Nat.le_refl _)) ⟨⟨_,_,S',(hrun led).choose_spec.2⟩,?_,fun h1 h2 ⟨hs,t,⟨o,es,ep,q1,q2⟩,z⟩ kk=>⟨hs,t,⟨o,es,ep,kk o q1,q2⟩,z⟩⟩,rfl,q _ I.fresh⟩
 obtain ⟨o,_,_,q1,_⟩:=S'
 exact ⟨o,q1⟩
theorem vE : cK X (.builtin "len") (fun xs H Q=>∃ D n,xs = [.ref D]∧H D = some (setO D n)∧n ≤ 4096∧Q (.int n) H):=by
 intro pins s σ H xs us Q I r h
 obtain ⟨D,n,rfl,e,hn,q⟩:=h
 obtain ⟨u1,rfl,r1⟩:=r.one
 obtain rfl : u1 = Value.ref D:=r1
 obtain ⟨⟨hs,t,⟨o,es,ep,q1,q2,q3,q4,q5,q6⟩,z⟩,_⟩:=(show bN X.prog X.w H s.heap D (setO D n) from I.hok D _ e)
 have hsz : es.size = n:=by rw [← z,← q5,Array.size_map]
 exact call_len_set q1 ⟨q2,q3.1,q3.2⟩ q4 q6 (by rw [hsz]; omega) ⟨.int n,H,I.tok _,⟨_,by rw [hsz]⟩,q⟩
theorem vF : cK X (.type "range") (fun xs H Q=>∃ n,xs = [.int n]∧∀ p,H p = none→Q (.ref p) (upd H p (.rng 0 n))):=by
 intro pins s σ H xs us Q I r h
 obtain ⟨n,rfl,q⟩:=h
 obtain ⟨u1,rfl,t,rfl⟩:=r.one
 refine call_range_1 ⟨.ref s.heap.objs.size,_,I.laid (o:=.rng 0 n) (fun b u e=>Heap.get?_push_of_some _ e) (Nat.le_refl _) ⟨_,_,_,Heap.get?_push_size _ rfl⟩,rfl,q _ I.fresh⟩
theorem yF (hc : X.calm = true) : cK X (.type "list") (fun xs H Q=>∃ (p : Addr) (n : Nat),xs = [.ref p]∧H p = some (.rng 0 n)∧n ≤ 1000∧∀ l,H l = none→Q (.ref l) (upd H l (.lst ((List.range n).map fun (i : Nat)=>V.int i)))):=by
 intro pins s σ H xs us Q I r h
 obtain ⟨p,n,rfl,e,hn,q⟩:=h
 obtain ⟨u1,rfl,r1⟩:=r.one
 obtain rfl : u1 = Value.ref p:=r1
 obtain ⟨t,u,v,hp⟩:=(show bN X.prog X.w H s.heap p (.rng 0 n) from I.hok p _ e)
 refine call_list_range (n:=n) (I.ok.hd hc) (show IsRange s.heap p 0 n 1 t u v from hp) (small_one (by omega) (by omega) (by omega) (by omega)) (by rw [rangeSize_one]; split <;> omega) (by omega) fun h' tk acc c k g it=>?_
 obtain ⟨i1,i2⟩:=it
 refine ⟨.ref s.heap.objs.size,_,I.laidN (t':=tk) (o:=.lst ((List.range n).map fun (i : Nat)=>V.int i)) (fun b u e=>k b u e) (Heap.get?_none_of_le (Nat.le_refl _)) ⟨?_,acc.toList,c,?_,by simpa using g⟩,rfl,q _ I.fresh⟩
 ·rw [List.length_map,List.length_range]
  exact Nat.le_trans hn (by decide)
 ·have go : ∀ (m : Nat) (l : List Value),l.length = m→(∀ (j : Nat) v,l[j]? = some v→∃ t,v = Value.int (0 + (j : Int) * 1) t)→Vals ((List.range m).map fun (i : Nat)=>V.int i) l:=by
   intro m
   induction m with
   | zero=>intro l hl _; cases l with
    | nil=>exact .nil
    | cons _ _=>cases hl
   | succ m ih =>
    intro l hl hv
    have hne : l ≠ []:=by intro z; rw [z] at hl; cases hl
    have el : l = l.dropLast ++ [l.getLast hne]:=(List.dropLast_concat_getLast hne).symm
    rw [List.range_succ,List.map_append,el]
    have hdl : l.dropLast.length = m:=by rw [List.length_dropLast,hl]; rfl
    refine Vals.append (ih _ hdl fun j v hj=>hv j v ?_) (.cons ?_ .nil)
    ·rw [el]
     have hj' : j < l.dropLast.length:=(List.getElem?_eq_some_iff.mp hj).1
     rw [List.getElem?_append_left hj']
     exact hj
    ·obtain ⟨t,ht⟩:=hv m (l.getLast hne) (by
      rw [List.getLast_eq_getElem,List.getElem?_eq_getElem (by omega : m < l.length)]
      simp [hl])
     exact ⟨t,by rw [ht]; simp⟩
  exact go n acc.toList (by simpa using i1) fun j v hj=>i2 j v (by simpa using hj)
end
end L2
namespace L2
open PySem PySem.Spec PyProof.Rows PySem.W
def dY (e : V→V→Bool) : List V→List V→Bool
 | [],[]=>true
 | x :: xs,y :: ys=>e x y && dY e xs ys
 | _,_=>false
theorem iS {e : V→V→Bool} : ∀ {xs ys : List V},xs.length = ys.length→dY e xs ys = (List.range xs.length).all fun i=>e (xs.getD i .non) (ys.getD i .non)
 | [],[],_=>rfl
 | x :: xs,y :: ys,h=>by
  have h' : xs.length = ys.length:=by simpa using h
  rw [dY,iS h',List.length_cons,List.range_succ_eq_map,List.all_cons,List.all_map]
  rfl
 | [],_ :: _,h=>by simp at h
 | _ :: _,[],h=>by simp at h
theorem rA {e : V→V→Bool} : ∀ {xs ys : List V},xs.length ≠ ys.length→dY e xs ys = false
 | [],[],h=>absurd rfl h
 | x :: xs,y :: ys,h=>by
  have h' : xs.length ≠ ys.length:=fun z=>h (by simp [z])
  rw [dY,rA h',Bool.and_false]
 | [],_ :: _,_=>rfl
 | _ :: _,[],_=>rfl
section
variable {X : Cx}
def ElEq (X : Cx) (H : Hp) (e : V→V→Bool) (x y : V) : Prop:=∀ (pins : List (Addr × Obj)) (s : Shared) (σ : St) (A : Around) (u v : Value),Inv X pins σ H s→A.units + 1 < cLine→RelV x u→RelV y v→SeqAt.EqAt A s u v (e x y)
def rLEq (X : Cx) (neg : Bool) (e : V→V→Bool) : R2:=fun x y H Q=>∃ p q xs ys,x = .ref p∧y = .ref q∧SqL X.K H p xs∧SqL X.K H q ys∧(∀ i,i < xs.length→i < ys.length→ElEq X H e (xs.getD i .non) (ys.getD i .non))∧Q (.bl (if neg then !dY e xs ys else dY e xs ys)) H
theorem aBD {pins : List (Addr × Obj)} {s : Shared} {σ : St} {H : Hp} {A : Around} {e : V→V→Bool} {xs ys : List V} {us vs : List Value} (I : Inv X pins σ H s) (hu : A.units + 1 < cLine) (rx : Vals xs us) (ry : Vals ys vs)
  (he : ∀ i,i < xs.length→i < ys.length→ElEq X H e (xs.getD i .non) (ys.getD i .non)) : ∀ j (h1 : j < us.toArray.size) (h2 : j < vs.toArray.size),SeqAt.EqAt A s us.toArray[j] vs.toArray[j] (e (xs.getD j .non) (ys.getD j .non)):=by
 intro j h1 h2
 have j1 : j < xs.length:=by rw [rx.length]; simpa using h1
 have j2 : j < ys.length:=by rw [ry.length]; simpa using h2
 have e1 : xs[j]? = some (xs.getD j .non):=by rw [List.getD_eq_getElem?_getD,List.getElem?_eq_getElem j1]; rfl
 have e2 : ys[j]? = some (ys.getD j .non):=by rw [List.getD_eq_getElem?_getD,List.getElem?_eq_getElem j2]; rfl
 obtain ⟨u,hu1,ru⟩:=rx.get e1
 obtain ⟨v,hv1,rv⟩:=ry.get e2
 have eu : us.toArray[j] = u:=by
  have : us[j]? = some us.toArray[j]:=by simp at h1 ⊢
  rw [hu1] at this; exact (Option.some.inj this).symm
 have ev : vs.toArray[j] = v:=by
  have : vs[j]? = some vs.toArray[j]:=by simp at h2 ⊢
  rw [hv1] at this; exact (Option.some.inj this).symm
 rw [eu,ev]
 exact he j j1 j2 pins s σ A u v I hu ru rv
theorem aDY {e : V→V→Bool} (hu : X.A.units + 2 < cLine) : OpR X (compareOp .NotEq) (rLEq X true e):=by
 intro pins s σ H x y v u Q I rx ry h
 obtain ⟨p,q,xs,ys,rfl,rfl,hp,hq,he,k⟩:=h
 obtain rfl : v = Value.ref p:=rx
 obtain rfl : u = Value.ref q:=ry
 obtain ⟨us,r1,p1,_⟩:=I.list hp
 obtain ⟨vs,r2,p2,_⟩:=I.list hq
 by_cases hl : xs.length = ys.length
 ·refine SeqAt.RcNeAt.lists (e:=fun i=>e (xs.getD i .non) (ys.getD i .non)) p1.isList p2.isList (by simp only [List.size_toArray]; rw [← r1.length,← r2.length]; exact hl) (by omega) (aBD I (by show X.A.units + 1 + 1 < cLine; omega) r1 r2 he) _ _ _ _ ⟨.bl _,H,I,rfl,?_⟩
  rw [show us.toArray.size = xs.length by rw [List.size_toArray,r1.length],← iS hl]
  exact k
 ·refine SeqAt.RcNeAt.lists_lengths p1.isList p2.isList (by simp only [List.size_toArray]; rw [← r1.length,← r2.length]; simpa using hl) (by omega) _ _ _ _ ⟨.bl _,H,I,rfl,?_⟩
  have k':=k
  rw [rA hl] at k'
  exact k'
theorem aAq (hc : X.calm = true) : cK X (.builtin "any") (fun xs H Q=>∃ (p : Addr) (bs : List Bool),xs = [.ref p]∧SqL X.K H p (bs.map V.bl)∧Q (.bl (bs.any id)) H):=by
 intro pins s σ H xs us Q I r h
 obtain ⟨p,bs,rfl,hp,q⟩:=h
 obtain ⟨u1,rfl,r1⟩:=r.one
 obtain rfl : u1 = Value.ref p:=r1
 obtain ⟨its,rv,pl,hz⟩:=I.list hp
 have hits : its = bs.map Value.bool:=by
  have go : ∀ (bs : List Bool) (its : List Value),Vals (bs.map V.bl) its→its = bs.map Value.bool:=by
   intro bs
   induction bs with
   | nil=>intro its r; cases r; rfl
   | cons b bs ih =>
    intro its r
    cases r with
    | cons r rr =>
     obtain rfl:=(show _ = Value.bool b from r)
     rw [ih _ rr]; rfl
  exact go bs its rv
 subst hits
 obtain ⟨ob,hob,_⟩:=id pl.isList
 have hlt : p < s.heap.objs.size:=Heap.lt_size hob
 refine call_any_walk (wpAny_pyIter_list pl.isList ⟨s.heap.objs.size,_,_,_,_,_,fun i=>bs.getD i false,rfl,Walks.list (show X.A.in1.handled = none from I.ok.hd hc) _ p (Nat.ne_of_lt hlt) _,⟨⟨_,Heap.get?_push_size _ rfl,rfl,rfl⟩,pl.isList.push _⟩,fun i v s1 Q' E' hv hq=>?_,fun h' tk k=>?_⟩)
 ·have hv' : (bs.map Value.bool)[i]? = some v:=by simpa using hv
  rw [List.getElem?_map] at hv'
  cases eb : bs[i]? with
  | none=>rw [eb] at hv'; cases hv'
  | some b =>
   rw [eb] at hv'
   obtain rfl : Value.bool b = v:=Option.some.inj hv'
   have : bs.getD i false = b:=by rw [List.getD_eq_getElem?_getD,eb]; rfl
   have hq' : Q' b s1:=by rw [← this]; exact hq
   exact wpAny_pure hq'
 ·have keep : ∀ b o,s.heap.get? b = some o→h'.get? b = some o:=fun b o e=>k b o (by simpa using Nat.ne_of_lt (Heap.lt_size e)) (Heap.get?_push_of_some _ e)
  refine ⟨.bl (bs.any id),H,I.kept (t':=tk) keep,?_,q⟩
  show Value.bool _ = Value.bool _
  congr 1
  have go : ∀ (bs : List Bool),((List.range bs.length).any fun i=>bs.getD i false) = bs.any id:=by
   intro bs
   induction bs with
   | nil=>rfl
   | cons b bs ih =>
    rw [List.length_cons,List.range_succ_eq_map,List.any_cons,List.any_map,List.any_cons,← ih]
    rfl
  rw [← go bs]
  simp
end
end L2
namespace L2
open PySem PySem.Spec PyProof.Rows
def lU (c : Addr) (qual : Str) : HO:=.ext fun h=>h.CodeRec (.ref c) qual
theorem aBE {P : Program} {w : World} {H : Hp} {h : Heap} {c : Addr} {qual : Str} (x : h.CodeRec (.ref c) qual) : bN P w H h c (lU c qual):=by
 refine ⟨x,?_,?_⟩
 ·obtain ⟨c',o,vs,t,e,ho,_⟩:=x
  cases e; exact ⟨o,ho⟩
 ·rintro h1 h2 ⟨c',o,vs,t,e,ho,r⟩ k
  cases e; exact ⟨c,o,vs,t,rfl,k o ho,r⟩
def aCi (f : Addr) (qual : Str) (params : Arguments) (body : Expr) (scope : Scope) (cells : List (Str × Addr)) (c : Addr) (h : Heap) : Prop :=
 ∃ (clos : List (Str × Addr)) (pm ctv : Value),(∀ x a,clos.lookup x = some a→cells.lookup x = some a)∧(∀ x,(x,NameKind.free)∈scope.names→∃ a,clos.lookup x = some a) ∧
  h.get? f = some (W.kla_obj "<lambda>" qual params body scope clos pm c ctv)
def lamO (f : Addr) (qual : Str) (params : Arguments) (body : Expr) (scope : Scope) (cells : List (Str × Addr)) (c : Addr) : HO:=.ext (aCi f qual params body scope cells c)
theorem wD {P : Program} {w : World} {H : Hp} {h : Heap} {f : Addr} {qual : Str} {params : Arguments} {body : Expr} {scope : Scope} {cells : List (Str × Addr)} {c : Addr} (x : aCi f qual params body scope cells c h) :
  bN P w H h f (lamO f qual params body scope cells c):=by
 refine ⟨x,?_,?_⟩
 ·obtain ⟨_,_,_,_,_,e⟩:=x
  exact ⟨_,e⟩
 ·rintro h1 h2 ⟨clos,pm,ctv,a,b,e⟩ k
  exact ⟨clos,pm,ctv,a,b,k _ e⟩
def yG (lp : Pos) (qual : Str) (P : Addr) (H : Hp) : Prop:=H P = some (.tbl #[])∨∃ c,H P = some (.tbl #[rawInt lp.line,rawInt lp.col,.ref c])∧H c = some (lU c qual)
structure LamC (X : Cx) (c P : Addr) : Prop where
 code : X.env.code = .ref c
 hd : W.CodeHd X.base c P
 bm : ∃ bm o,X.mg "__builtins__" = some (.ref bm)∧bm ≠ builtinsNs∧bm ≠ mainGlobals∧X.base.get? bm = some o∧o.cls = .type "module" ∧ o.dict = some builtinsNs∧o.data = .plain
def tLam (lp : Pos) (qual : Str) (P : Addr) (params : Arguments) (body : Expr) (scope : Scope) (cells : List (Str × Addr)) : TE:=fun _ H Q=>yG lp qual P H ∧
 ∀ (f c : Addr) (H2 : Hp),yG lp qual P H2→(∀ b o,H b = some o→b ≠ P→H2 b = some o)→H2 c = some (lU c qual)→H2 f = some (lamO f qual params body scope cells c)→Q (.ref f) H2
theorem vG {lp : Pos} {c : Addr} : TriplesOk (#[rawInt lp.line,rawInt lp.col,.ref c] : Array Value).toList:=trivial
theorem aAr {lp : Pos} {c : Addr} : codeAmong lp (#[rawInt lp.line,rawInt lp.col,.ref c] : Array Value).toList = some (.ref c):=by
 show (if ((lp.line : Int) == (lp.line : Int) && (lp.col : Int) == (lp.col : Int)) = true then some (Value.ref c) else _) = _
 simp
section
variable {X : Cx} {c P : Addr} {params : Arguments} {body : Expr} {scope : Scope} {lp : Pos} {NB : List Str} {src : List (Option Nat)}
theorem LamC.at (C : LamC X c P) {pins : List (Addr × Obj)} {σ : St} {H : Hp} {s : Shared} {ps : Array Value} (I : Inv X pins σ H s) (hP : H P = some (.tbl ps)) : s.heap.BuiltinsAt X.mg P:=by
 obtain ⟨bm,o,b1,b2,b3,b4,b5,b6,b7⟩:=C.bm
 refine ⟨bm,o,b1,b2,b3,fun z=>?_,I.bk _ _ b4,b5,b6,b7⟩
 have:=(I.bs _ _ b4).2
 rw [z,hP] at this; cases this
theorem Inv.globs {pins : List (Addr × Obj)} {σ : St} {H : Hp} {s : Shared} (I : Inv X pins σ H s) : s.heap.Ns mainGlobals X.mg:=I.mod.glob.keeps I.bk
theorem aDZ (C : LamC X c P) (S : eU NB src scope X) (hdef : defaultsOf params X.env = ([],[]):=by rfl) : PE X (.Lambda params body scope lp) (tLam lp (X.env.qual ++ "<lambda>") P params body scope X.env.cells):=by
 intro pins s σ H Q I h
 obtain ⟨tab,h⟩:=h
 obtain ⟨clos,ecl,c1,c2⟩:=jT I.ok S
 refine W.kla_eval hdef ?_
 have hsz : ∀ b o,s.heap.get? b = some o→b < s.heap.objs.size:=fun b o e=>Heap.lt_size e
 rcases tab with hP | ⟨c',hP,hc'⟩
 ·-- the first time
  have hPo : s.heap.get? P = some (W.tabObj #[]):=I.hok P _ hP
  have hPL : X.env.locals ≠ P:=fun z=>by have f:=I.free; rw [z,hP] at f; cases f
  have hPg : mainGlobals ≠ P:=fun z=>by
   obtain ⟨o,es,ep,e,d,_⟩:=I.mod.glob
   have:=(I.bs _ _ e).2
   rw [z,hP] at this; cases this
  refine W.kla_makeFunction (mg:=X.mg) ecl I.ok.glob I.globs C.code (C.hd.keeps I.bk) hPo (by trivial) rfl hPg (C.at I hP) fun c' ctv h' tk hx hge hlt hrec htb=>?_
  have hgt : ∀ b o,b ≠ P→s.heap.get? b = some o→(h'.push (W.kla_obj "<lambda>" (X.env.qual ++ "<lambda>") params body scope clos ((X.mg "__name__").getD .none) c' ctv)).get? b = some o:=fun b o hb e=>Heap.get?_push_of_some _ (hx b o hb e)
  have hcP : c' ≠ P:=Nat.ne_of_gt (Nat.lt_of_lt_of_le (hsz _ _ hPo) hge)
  have hfP : h'.objs.size ≠ P:=Nat.ne_of_gt (Nat.lt_of_lt_of_le (hsz _ _ hPo) (Nat.le_trans hge (Nat.le_of_lt hlt)))
  have hfc : h'.objs.size ≠ c':=Nat.ne_of_gt hlt
  have nf : H h'.objs.size = none:=I.hok.fresh (by omega)
  have nc : H c' = none:=I.hok.fresh hge
  let H2 : Hp:=upd (upd (upd H P (.tbl #[rawInt lp.line,rawInt lp.col,.ref c'])) c' (lU c' (X.env.qual ++ "<lambda>"))) h'.objs.size (lamO h'.objs.size (X.env.qual ++ "<lambda>") params body scope X.env.cells c')
  have eP : H2 P = some (.tbl #[rawInt lp.line,rawInt lp.col,.ref c']):=by
   show upd _ _ _ _ = _
   rw [aH hfP.symm,aH hcP.symm,aD]
  have ec : H2 c' = some (lU c' (X.env.qual ++ "<lambda>")):=by
   show upd _ _ _ _ = _
   rw [aH hfc.symm,aD]
  have ef : H2 h'.objs.size = some (lamO h'.objs.size (X.env.qual ++ "<lambda>") params body scope X.env.cells c'):=aD
  have eo : ∀ b,b ≠ P→b ≠ c'→b ≠ h'.objs.size→H2 b = H b:=fun b h1 h2 h3=>by
   show upd _ _ _ _ = _
   rw [aH h3,aH h2,aH h1]
  have old : ∀ b o,H b = some o→b ≠ P→H2 b = some o:=fun b o e hb=>by
   rw [eo b hb (aJ e nc) (aJ e nf)]; exact e
  have I2 : Inv X pins σ H2 { s with heap:=h'.push (W.kla_obj "<lambda>" (X.env.qual ++ "<lambda>") params body scope clos ((X.mg "__name__").getD .none) c' ctv),toks:=tk }:=by
   refine I.step (g':=s.gens) (d':=s.drawn) (ch:=[]) (fun _ z=>absurd z (by simp)) (fun b o _ _ _ e n=>hgt b o (fun z=>by rw [z,hP] at n; cases n) e) (fun b o _ _ _ e n=>⟨o.slots,hgt b o (fun z=>by rw [z,hP] at n; cases n) e⟩)
    (fun b o _ e n=>?_) (fun b o _ e=>?_) (fun b xs e=>old b _ e fun z=>by rw [z,hP] at e; cases e) (fun b o u e=>old b _ e fun z=>by rw [z,hP] at e; cases e) (fun b ps e=>?_) (fun m hm=>?_) (fun b o e=>?_) I.bare
   ·rw [eo b (fun z=>by rw [z,hP] at n; cases n) (Nat.ne_of_lt (Nat.lt_of_lt_of_le (hsz b o e) hge)) (Nat.ne_of_lt (Nat.lt_of_lt_of_le (hsz b o e) (Nat.le_trans hge (Nat.le_of_lt hlt))))]
    exact n
   ·by_cases hb : b = P
    ·exact ⟨_,by rw [hb]; exact Heap.get?_push_of_some _ htb⟩
    ·exact ⟨o,hgt b o hb e⟩
   ·by_cases hb : b = P
    ·rw [hb] at e ⊢
     rw [hP] at e; cases e
     exact ⟨#[rawInt lp.line,rawInt lp.col,.ref c'],by rw [eP]; simp⟩
    ·exact ⟨#[],by rw [old b _ e hb]; simp⟩
   ·exact (hm.extBut hx hPL).push _
   ·by_cases hbf : b = h'.objs.size
    ·subst hbf
     rw [ef] at e; cases e
     exact wD ⟨clos,_,ctv,c1,c2,Heap.get?_push_size _ rfl⟩
    ·by_cases hbc : b = c'
     ·subst hbc
      rw [ec] at e; cases e
      refine aBE ?_
      obtain ⟨c₂,oc,vs,t,e2,hoc,r⟩:=hrec
      exact ⟨c₂,oc,vs,t,e2,Heap.get?_push_of_some _ hoc,r⟩
     ·by_cases hbP : b = P
      ·subst hbP
       rw [eP] at e; cases e
       exact Heap.get?_push_of_some _ htb
      ·rw [eo b hbP hbc hbf] at e
       refine (I.hok b o e).stay (fun d u hd q=>hgt d u ?_ q) (fun d q=>old d _ q fun z=>by rw [z,hP] at q; cases q) fun d xs q=>old d _ q fun z=>by rw [z,hP] at q; cases q
       rintro rfl
       rcases hd with z | z
       ·exact hbP z.symm
       ·rw [hP] at z; cases z
  exact ⟨.ref h'.objs.size,H2,I2,rfl,h _ c' H2 (.inr ⟨c',eP,ec⟩) old ec ef⟩
 ·-- again
  have hPo : s.heap.get? P = some (W.tabObj #[rawInt lp.line,rawInt lp.col,.ref c']):=I.hok P _ hP
  refine W.kla_makeFunctionHit (mg:=X.mg) ecl I.ok.glob I.globs C.code (C.hd.keeps I.bk) hPo vG aAr (C.at I hP) fun ctv h' tk hk hge=>?_
  have nf : H h'.objs.size = none:=I.hok.fresh hge
  let H2 : Hp:=upd H h'.objs.size (lamO h'.objs.size (X.env.qual ++ "<lambda>") params body scope X.env.cells c')
  have ef : H2 h'.objs.size = some (lamO h'.objs.size (X.env.qual ++ "<lambda>") params body scope X.env.cells c'):=aD
  have old : ∀ b o,H b = some o→H2 b = some o:=fun b o e=>by
   show upd _ _ _ _ = _
   rw [aH (aJ e nf)]; exact e
  have hgt : ∀ b o,s.heap.get? b = some o→(h'.push (W.kla_obj "<lambda>" (X.env.qual ++ "<lambda>") params body scope clos ((X.mg "__name__").getD .none) c' ctv)).get? b = some o:=fun b o e=>Heap.get?_push_of_some _ (hk b o e)
  have I2 : Inv X pins σ H2 { s with heap:=h'.push (W.kla_obj "<lambda>" (X.env.qual ++ "<lambda>") params body scope clos ((X.mg "__name__").getD .none) c' ctv),toks:=tk }:=by
   refine I.step (g':=s.gens) (d':=s.drawn) (ch:=[]) (fun _ z=>absurd z (by simp)) (fun b o _ _ _ e n=>hgt b o e) (fun b o _ _ _ e n=>⟨o.slots,hgt b o e⟩)
    (fun b o _ e n=>?_) (fun b o _ e=>⟨o,hgt b o e⟩) (fun b xs e=>old b _ e) (fun b o u e=>old b _ e) (fun b ps e=>⟨#[],by rw [old b _ e]; simp⟩) (fun m hm=>(hm.keeps hk).push _) (I.hok.laid hgt hge (wD ⟨clos,_,ctv,c1,c2,Heap.get?_push_size _ rfl⟩)) I.bare
   ·show upd _ _ _ _ = _
    rw [aH (Nat.ne_of_lt (Nat.lt_of_lt_of_le (hsz b o e) hge))]
    exact n
  exact ⟨.ref h'.objs.size,H2,I2,rfl,h _ c' H2 (.inr ⟨c',old _ _ hP,old _ _ hc'⟩) (fun b o e _=>old b o e) (old _ _ hc') ef⟩
end
end L2
namespace L2
open PySem PySem.Spec PyProof.Rows
def aAs (X : Cx) (id : String) (ks : List Str) (r : St→List V→List V→Hp→VK→Prop) : Prop :=
 ∀ (pins : List (Addr × Obj)) (s : Shared) (σ : St) (H : Hp) (vs zs : List V) (us ws : List Value) (Q : VK),Inv X pins σ H s→Vals vs us→Vals zs ws→r σ vs zs H Q →
  wpAny (model X.prog X.w) X.A (call (.builtin id) us (ks.zip ws)) (EP X pins σ Q) X.xe s
def tCBK (r : St→List V→List V→Hp→VK→Prop) (t tk : TA) : TE:=fun σ H Q=>t σ H fun vs H1=>tk σ H1 fun zs H2=>r σ vs zs H2 Q
section
variable {X : Cx} {x : Str} {p pos : Pos} {e : Expr} {es : List Expr} {kws : List Keyword} {t tk : TA} {id : String} {ks : List Str} {r : St→List V→List V→Hp→VK→Prop}
theorem aAt (hc : aAs X id ks r) (hg : Gl X x) (hm : X.mg x = none) (hv : bootBuiltins x = some (.builtin id)) (ha : PA X (e :: es) t) (hkw : PK X kws tk) (hn : x ≠ "__name__" := by decide) (hdb : (x == ("__debug__" : Str)) = false:=by decide)
  (hks : (backToKw pos (keywordEach kws X.env)).filterMap (·.1) = ks:=by rfl)
  (he : backTo pos (starEach (e :: es) X.env) = (false,eval e X.env) :: backTo pos (starEach es X.env):=by rfl)
  (hplain : (backTo pos (starEach (e :: es) X.env)).any (·.1) = false:=by rfl)
  (hall : (backToKw pos (keywordEach kws X.env)).all (·.1.isSome) = true:=by rfl)
  (hno : (backToKw pos (keywordEach kws X.env)).any (·.1.isNone) = false:=by rfl) : PE X (.Call (.Name x p) (e :: es) kws pos) (tCBK r t tk):=by
 intro pins s σ H Q I h
 refine wpAny_Call_Name_kw (iX I hg hm hv ?_ hn hdb)
 refine PyProof.Rows.callWith_kw (thn (ha pos pins s σ H _ I h) fun us s1 ⟨vs,H1,I1,r1,q1⟩=>?_) he hplain hall hno
 refine thn (hkw pos pins s1 σ H1 _ I1 q1) fun ws s2 ⟨zs,H2,I2,rz,q2⟩=>?_
 rw [hks]
 exact hc pins s2 σ H2 vs zs us ws Q I2 r1 rz q2
end
def KOut (za zb : Int) (ns out : List Int) : Prop:=∃ ps : List (Int × Int),ps.Perm (ns.map fun z=>((z - za) % zb,z))∧out = ps.map (·.2)∧ps.Pairwise fun p q=>p.1 ≤ q.1
def aD0 (X : Cx) (qual : Str) (params : Arguments) (body : Expr) (scope : Scope) (ia ib : Nat) : St→List V→List V→Hp→VK→Prop:=fun σ vs zs H Q =>
 ∃ (l f c : Addr) (ns : List Int) (za zb : Int),vs = [.ref l]∧zs = [.ref f]∧SqL X.K H l (ns.map V.int)∧ns.length < 64∧H f = some (lamO f qual params body scope X.env.cells c)∧H c = some (lU c qual) ∧
  σ[ia]? = some (some (.int za))∧σ[ib]? = some (some (.int zb))∧0 < zb∧∀ (r : Addr) (out : List Int),H r = none→KOut za zb ns out→Q (.ref r) (upd H r (.lst (out.map V.int)))
theorem rB : ∀ {ns : List Int} {vs : List Value},Vals (ns.map V.int) vs→IntsAre vs ns
 | [],_,.nil=>.nil
 | _ :: _,_,.cons ⟨t,e⟩ r=>by subst e; exact .cons _ t (rB r)
structure LamS (X : Cx) (qual : Str) (params : Arguments) (body : Expr) (scope : Scope) (y a b : Str) (ia ib : Nat) : Prop where
 bd : ∃ p1 p2 p3 p4 p5,body = .BinOp (.BinOp (.Name y p1) .Sub (.Name a p2) p3) .Mod (.Name b p4) p5
 bind : ∀ clos pm c ctv v,bindArgs (W.kla_fn "<lambda>" qual params body scope clos pm (.ref c) ctv) ⟨[v],[]⟩ = pure [(y,v)]
 na : X.N[ia]? = some a
 nb : X.N[ib]? = some b
 ca : X.env.scope.names.lookup a = some .cell
 cb : X.env.scope.names.lookup b = some .cell
 ly : scope.names.lookup y = some .local
 fa : scope.names.lookup a = some .free
 fb : scope.names.lookup b = some .free
 ma : (a,NameKind.free)∈scope.names
 mb : (b,NameKind.free)∈scope.names
 nocell : ∀ z∈scope.names,z.2 ≠ .cell
 kind : scope.kind = .function
 co : scope.isCoroutine = false
 gen : scope.isGenerator = false
 dy : (y == ("__debug__" : Str)) = false
 da : (a == ("__debug__" : Str)) = false∧(a == ("__classdict__" : Str)) = false
 db : (b == ("__debug__" : Str)) = false∧(b == ("__classdict__" : Str)) = false
theorem yH {X : Cx} {qual : Str} {params : Arguments} {body : Expr} {scope : Scope} {y a b : Str} {ia ib k : Nat} (S : LamS X qual params body scope y a b ia ib) (hr : Room k X.A) :
  aAs X "sorted" ["key"] (aD0 X qual params body scope ia ib):=by
 intro pins s σ H vs zs us ws Q I r rz h
 obtain ⟨l,f,c,ns,za,zb,rfl,rfl,hl,h64,hf,hc,sa,sb,hb0,q⟩:=h
 obtain ⟨u1,rfl,r1⟩:=r.one
 obtain rfl : u1 = Value.ref l:=r1
 obtain ⟨w1,rfl,rw1⟩:=rz.one
 obtain rfl : w1 = Value.ref f:=rw1
 obtain ⟨its,rv,pl,hz⟩:=I.list hl
 have hI:=rB rv
 obtain ⟨m,F⟩:=I.fr
 obtain ⟨p1,p2,p3,p4,p5,rfl⟩:=S.bd
 obtain ⟨clos,pm,ctv,c1,c2,hfo⟩:=(I.hok f _ hf).1
 have hcr : s.heap.CodeRec (.ref c) qual:=(I.hok c _ hc).1
 obtain ⟨m',hn',hlk⟩:=I.loc
 have cellA : ∃ ca ta,clos.lookup a = some ca∧s.heap.IsCell ca (some (.int za ta)):=by
  obtain ⟨u,⟨ta,rfl⟩,lk⟩:=hlk ia a (.int za) S.na sa (.inr (.inl S.ca))
  obtain ⟨ca,e1⟩:=c2 a S.ma
  rcases lk with ⟨z,_⟩ | ⟨_,ca',e2,e3⟩
  ·have z' : X.env.scope.names.lookup a = some .local:=z
   rw [S.ca] at z'; cases z'
  ·have e4:=c1 a ca e1
   rw [e2] at e4; cases e4
   exact ⟨ca,ta,e1,e3⟩
 have cellB : ∃ cb tb,clos.lookup b = some cb∧s.heap.IsCell cb (some (.int zb tb)):=by
  obtain ⟨u,⟨tb,rfl⟩,lk⟩:=hlk ib b (.int zb) S.nb sb (.inr (.inl S.cb))
  obtain ⟨cb,e1⟩:=c2 b S.mb
  rcases lk with ⟨z,_⟩ | ⟨_,cb',e2,e3⟩
  ·have z' : X.env.scope.names.lookup b = some .local:=z
   rw [S.cb] at z'; cases z'
  ·have e4:=c1 b cb e1
   rw [e2] at e4; cases e4
   exact ⟨cb,tb,e1,e3⟩
 obtain ⟨ca,ta,ea,ha⟩:=cellA
 obtain ⟨cb,tb,eb,hb⟩:=cellB
 have noL : ∀ b' (o : Obj),s.heap.get? b' = some o→(∀ es ep,o.data ≠ .dict es ep)→b' ≠ X.env.locals:=fun b' o e d z=>by
  obtain ⟨o',es,ep,e',d',_⟩:=F.ns
  rw [z,e'] at e; cases e
  exact d _ _ d'
 have len : (ns.map fun z=>(z - za) % zb).length = its.length:=by rw [List.length_map,hI.length]
 refine ksk_sorted (b:=false) (f:=.ref f) (kz:=ns.map fun z=>(z - za) % zb) F sC pl.isList len (by rw [hI.length]; exact h64) (ksk_s1 _ _) (fun x=>ksk_l1 _ _) (fun x=>ksk_t1 _ _) ?_ ?_
 ·-- one key
  intro i v k hv hk h tk own F' N'
  have at_ : ∀ b' u,b' ≠ X.env.locals→s.heap.get? b' = some u→h.get? b' = some u:=fun b' u hne e=>by
   cases z : X.base.get? b' with
   | some o =>
    have:=I.bk b' o z
    rw [e] at this; cases this
    exact F'.keep b' _ z
   | none=>exact (N' (b',u) (List.mem_append_left _ (fZ hne z e))).1
  have hfo':=at_ f _ (noL f _ hfo (by intro es ep z; cases z)) hfo
  have hcr' : h.CodeRec (.ref c) qual:=by
   obtain ⟨c0,o,vs0,t0,e0,ho,hd,hv0⟩:=hcr
   refine ⟨c0,o,vs0,t0,e0,at_ _ _ (noL _ _ ho (by rw [hd]; intro es ep z; cases z)) ho,hd,hv0⟩
  have ha' : h.IsCell ca (some (.int za ta)):=by
   obtain ⟨o,ho,hd⟩:=ha
   exact ⟨o,at_ _ _ (noL _ _ ho (by rw [hd]; intro es ep z; cases z)) ho,hd⟩
  have hb' : h.IsCell cb (some (.int zb tb)):=by
   obtain ⟨o,ho,hd⟩:=hb
   exact ⟨o,at_ _ _ (noL _ _ ho (by rw [hd]; intro es ep z; cases z)) ho,hd⟩
  obtain ⟨z,tz,rfl,rfl⟩ : ∃ z tz,v = .int z tz∧k = (z - za) % zb:=by
   obtain ⟨n,t,e⟩:=hI.all v (List.mem_of_getElem? hv)
   refine ⟨n,t,e,?_⟩
   rw [List.getElem?_map] at hk
   have hn:=hI.nums
   have e1 : (its.map numOf)[i]? = some n:=by rw [List.getElem?_map,hv,e]; rfl
   rw [hn] at e1
   rw [e1] at hk
   exact (Option.some.inj hk).symm
  have hroom : X.A.in1.in1.depth < recursionLimit:=by
   have:=hr.dp
   show X.A.depth < _
   omega
  refine wpAny_call (W.kla_callFunE hroom hfo' rfl S.co S.gen rfl hcr' ?_)
  rw [S.bind]
  refine wpAny_pure (wpAny_newFunctionEnv S.nocell (fun x hx=>by rw [List.mem_singleton.mp hx]; exact S.ly) (fun h₁ hns hsb=>⟨((I.ok.mod.nolimit).keeps F'.keep).fresh _ hsb,?_⟩) S.kind)
  have hk₁ : ∀ b o,h.get? b = some o→h₁.get? b = some o:=fun b o e=>hsb.extBut b o (Nat.ne_of_lt (Heap.lt_size e)) (Heap.get?_push_of_some _ e)
  have ha₁:=ha'.keeps hk₁
  have hb₁:=hb'.keeps hk₁
  refine W.kla_codeExpr ?_
  refine wpAny_BinOp (wpAny_BinOp ?_)
  refine wpAny_Name (wpAny_loadName_local S.kind S.ly hns (v:=.int z tz) (by simp) ?_) S.dy
  refine wpAny_Name (wpAny_loadName_free S.kind S.fa ea ha₁ ?_ S.da.2) S.da.1
  refine sub_int ?_
  refine wpAny_Name (wpAny_loadName_free S.kind S.fb eb hb₁ ?_ S.db.2) S.db.1
  refine mod_int' (by omega) ?_
  rw [Int.fmod_eq_emod_of_nonneg _ (by omega)]
  refine KskEnd.intro (news':=eV X.base s.heap X.env.locals ++ own) ⟨F'.ns.keeps hk₁,fun b o e=>hk₁ b o (F'.keep b o e),F'.above⟩ (fun p hp=>⟨hk₁ _ _ (N' p hp).1,(N' p hp).2⟩) fun p hp=>hp
 ·-- the list
  intro D h' tk out cc F' N' hlt kout
  have hD:=rK I N' hlt
  obtain ⟨ps,hp,ho,hs⟩:=kout
  have hmem : ∀ p∈ps,∃ n t,p.2 = .int n t:=fun p hp'=>by
   have:=hp.mem_iff.mp hp'
   exact hI.all _ (List.of_mem_zip this).2
  have hz' : ((ns.map fun z=>(z - za) % zb).zip its).map (fun p=>(p.1,numOf p.2)) = ns.map fun z=>((z - za) % zb,z):=by
   have hn:=hI.nums
   rw [← hn]
   have go : ∀ (l : List Value),((((l.map numOf).map fun z=>(z - za) % zb).zip l).map fun p=>(p.1,numOf p.2)) = (l.map numOf).map fun z=>((z - za) % zb,z):=by
    intro l
    induction l with
    | nil=>rfl
    | cons x l ih=>simp only [List.map_cons,List.zip_cons_cons,ih]
   exact go its
  have vals : Vals ((ps.map fun p=>(p.1,numOf p.2)).map (fun p=>V.int p.2)) (ps.map Prod.snd):=by
   have go : ∀ (l : List (Int × Value)),(∀ p∈l,∃ n t,p.2 = .int n t)→Vals ((l.map fun p=>(p.1,numOf p.2)).map (fun p=>V.int p.2)) (l.map Prod.snd):=by
    intro l
    induction l with
    | nil=>intro _; exact .nil
    | cons x l ih =>
     intro hx
     refine .cons ?_ (ih fun p hp=>hx p (List.mem_cons_of_mem _ hp))
     obtain ⟨n,t,e⟩:=hx x List.mem_cons_self
     show ∃ t,x.2 = Value.int (numOf x.2) t
     rw [e]; exact ⟨t,rfl⟩
   exact go ps hmem
  have hout : KOut za zb ns ((ps.map fun p=>(p.1,numOf p.2)).map (·.2)):=by
   refine ⟨ps.map fun p=>(p.1,numOf p.2),?_,rfl,?_⟩
   ·rw [← hz']; exact hp.map _
   ·refine List.pairwise_map.mpr (hs.imp fun {p q} z=>?_)
    simpa using z
  have hDo : h'.get? D = some (seqObj "list" out cc):=(N' _ List.mem_cons_self).1
  have I2 : Inv X pins σ (upd H D (.lst (((ps.map fun p=>(p.1,numOf p.2)).map (·.2)).map V.int))) { s with heap:=h',toks:=tk }:=by
   refine I.fromK F F' (fun p hp=>N' p (List.mem_cons_of_mem _ hp)) hD ⟨?_,ps.map Prod.snd,cc,?_,?_⟩
   ·have h1:=hp.length_eq
    rw [List.length_zip,len,Nat.min_self] at h1
    simp only [List.length_map]
    rw [h1,hI.length]
    exact Nat.le_trans (Nat.le_of_lt h64) (by decide)
   ·have ev:=vals; simp only [List.map_map] at ev ⊢; exact ev
   ·rw [hDo,← ho]
  exact ⟨.ref D,_,I2,rfl,q D _ (I.hok.freshN hD) hout⟩
end L2
namespace L2
open PySem PySem.Spec PyProof.Rows
def BmOk (mg : Str→Option Value) (base : Heap) : Prop:=∃ bm o,mg "__builtins__" = some (.ref bm)∧bm ≠ builtinsNs∧bm ≠ mainGlobals∧base.get? bm = some o∧o.cls = .type "module" ∧ o.dict = some builtinsNs∧o.data = .plain
def rP (ts : List Addr) (H : Hp) : Prop:=(∀ P∈ts,H P = some (.tbl #[]))∧∀ b,H b = none∨(b∈ts∧H b = some (.tbl #[]))∨∃ o xs,H b = some (.frz o (.lst xs))
theorem aAu {P : Program} {w : World} {K : W.Frag} {mg mb : Str→Option Value} {CX : CXT} {k : Nat} {fa a : Addr} {fd : FuncData} {x : Str} {sp : Sp} {s₁ : Shared} {vs : List Value} {ns : List Int} {ts : List Addr}
  (KX : K.In s₁.heap) (hns : s₁.heap.Ns mainGlobals mg) (hb : s₁.heap.Ns builtinsNs mb) (hbb : ∀ x : Str,x ≠ "__name__" → mb x = bootBuiltins x) (hlim : s₁.heap.NoLimit) (hg : s₁.gens = #[]) (hbm : BmOk mg s₁.heap)
  (hts : ∀ P∈ts,s₁.heap.get? P = some (W.tabObj #[])) (hcd : ∀ P∈ts,∃ c,W.codeHdIn K c P = true) (hkt : ∀ P∈ts,K.lookup P = none)
  (ha : s₁.heap.get? a = some { cls:=.type "list",data:=.seq vs.toArray }) (hi : IntsAre vs ns) (hl : ns.length ≤ sizeLine) (hr : Room k callerA)
  (F : ∀ base : Heap,K.In base→base.Ns mainGlobals mg→BmOk mg base→FnOk P w K mg base CX k fa fd [x] sp) (hbind : ∀ (s : Shared) (u : Value),BindsTo s fd ⟨[u],[]⟩ [(x,u)])
  (hsp : ∀ H : Hp,rP ts H→SqL K H a (ns.map V.int)→sp [.ref a] H (fun v _=>v = .bl true) fun _ _ _=>False)
  (hCX : ∀ H e s',CX [] H s₁ (fun _ _ _=>False) e s'→False) :
  codeAny (model P w) callerA (.call (.ref fa) ⟨[.ref a],[]⟩) (fun r s'=>r = .ok (.ret (.bool true))∧OldK s₁.heap s'.heap∧s'.os = s₁.os∧AllBare s'.gens) s₁:=by
 have rv:=kQ hi
 have lenV:=hi.length
 have hat : a ∉ ts:=fun z=>by
  have:=hts a z
  rw [ha] at this; cases this
 have core : ∀ H : Hp,rP ts H→SqL K H a (ns.map V.int)→HOk P w H s₁.heap→(∀ b,H b ≠ none→b = a∨b∈ts)→(H a ≠ none→K.lookup a = none) →
   codeAny (model P w) callerA (.call (.ref fa) ⟨[.ref a],[]⟩) (fun r s'=>r = .ok (.ret (.bool true))∧OldK s₁.heap s'.heap∧s'.os = s₁.os∧AllBare s'.gens) s₁:=by
  intro H hO hS hok hA hK
  have base_of : ∀ {b : Addr} {o : Obj},s₁.heap.get? b = some o→H b = none→(hidT s₁.heap H).get? b = some o:=fun e n=>aBm e n
  have noA : ∀ {b : Addr} {o : Obj},s₁.heap.get? b = some o→(∀ v n,o.data ≠ .seq v n)→(∀ v,o.data ≠ .fields v)→H b = none:=fun {b o} e d1 d2=>by
   cases q : H b with
   | none=>rfl
   | some u =>
    rcases hA b (by rw [q]; simp) with e' | e'
    ·subst e'
     rw [ha] at e; cases e
     exact absurd rfl (d1 _ _)
    ·rw [hts b e'] at e; cases e
     exact absurd rfl (d2 _)
  have nsK : ∀ {b : Addr} {m : Str→Option Value},s₁.heap.Ns b m→(hidT s₁.heap H).Ns b m:=fun {b m} ⟨o,es,ep,e,d,r⟩=>⟨o,es,ep,base_of e (noA e (by rw [d]; intro v n z; cases z) (by rw [d]; intro v z; cases z)),d,r⟩
  have hKb : K.In (hidT s₁.heap H):=fun b o e=>base_of (KX b o e) (by
   cases q : H b with
   | none=>rfl
   | some u =>
    rcases hA b (by rw [q]; simp) with e' | e'
    ·subst e'
     rw [hK (by rw [q]; simp)] at e; cases e
    ·rw [hkt b e'] at e; cases e)
  have hB : BmOk mg (hidT s₁.heap H):=by
   obtain ⟨bm,o,b1,b2,b3,b4,b5,b6,b7⟩:=hbm
   exact ⟨bm,o,b1,b2,b3,base_of b4 (noA b4 (by rw [b7]; intro v n z; cases z) (by rw [b7]; intro v z; cases z)),b5,b6,b7⟩
  have hM : Mod K mg (hidT s₁.heap H):=⟨hKb,nsK hns,⟨mb,nsK hb,hbb⟩,let ⟨mc,h1,h2⟩:=hlim; ⟨mc,nsK h1,h2⟩⟩
  have e0 : Env0 P w K mg (hidT s₁.heap H) callerA [] s₁ H:=⟨rfl,hM,fun b o e=>aCx e,Nat.le_of_eq (zK _ _),trivial,fun b hb=>absurd (show b∈([] : List Addr) from hb) (by simp),hok,.of_eq hg⟩
  refine codeAny_mono ((F _ hKb (nsK hns) hB).run callerA [] s₁ H ⟨[.ref a],[]⟩ [.ref a] [.ref a] _ _ hr e0 (hbind s₁ (.ref a)) (.cons rfl .nil) (hsp H hO hS)) fun r s' h=>?_
  cases r with
  | error e=>exact (hCX H e s' h).elim
  | ok fl =>
   cases fl with
   | next=>exact False.elim h
   | brk=>exact False.elim h
   | cont=>exact False.elim h
   | ret u =>
    obtain ⟨v,H',os,bare,un,hok',r',q⟩:=h
    have q' : v = .bl true:=q
    subst q'
    obtain rfl : u = Value.bool true:=r'
    refine ⟨rfl,⟨fun b o e=>?_,fun b o e=>un.there b o e (by simp)⟩,os,bare⟩
    cases q : H b with
    | none=>exact .inl (un.keep b o e q (by intro z; exact absurd (show b∈([] : List Addr) from z) (by simp)) (by simp))
    | some u =>
     rcases hO.2 b with z | ⟨zt,z⟩ | ⟨ob,xs,z⟩
     ·rw [q] at z; cases z
     ·obtain ⟨more,z2⟩:=un.tbls b _ z
      have e1:=hts b zt
      rw [e] at e1; cases e1
      have e2 : s'.heap.get? b = some { cls:=.none,data:=.fields (#[] ++ more) }:=hok' b _ z2
      obtain ⟨c,hc⟩:=hcd b zt
      obtain ⟨oc,vsc,_,_,_,_,_,_,_,g1,g2,g3,g4,_⟩:=W.codeHd_of_K KX hc
      exact .inr (.inl ⟨⟨c,oc,vsc,g1,g2,g3,g4⟩,rfl,#[],more,rfl,e2⟩)
     ·have z2:=un.frzs b ob _ z
      obtain ⟨e1,_⟩:=hok b _ z
      obtain ⟨e2,_⟩:=hok' b _ z2
      rw [e] at e1; cases e1
      exact .inl e2
 have tabOk : ∀ (H : Hp),(∀ P∈ts,H P = some (.tbl #[]))→True:=fun _ _=>trivial
 classical
 cases hk : K.lookup a with
 | some o =>
  have e:=KX a o hk
  rw [ha] at e
  cases e
  refine core (fun b=>if b∈ts then some (.tbl #[]) else none) ⟨fun P hP=>if_pos hP,fun b=>?_⟩ (.inr ⟨_,vs.toArray,_,hk,rfl,rfl,rfl,by rw [List.size_toArray,lenV]; exact hl,by simpa using rv⟩) (fun b u z=>?_) (fun b z=>?_) fun z=>absurd (if_neg hat) z
  ·by_cases hb : b∈ts
   ·exact .inr (.inl ⟨hb,if_pos hb⟩)
   ·exact .inl (if_neg hb)
  ·by_cases hb : b∈ts
   ·have z':=(if_pos hb).symm.trans z
    cases z'
    exact hts b hb
   ·have z':=(if_neg hb).symm.trans z
    cases z'
  ·by_cases hb : b∈ts
   ·exact .inr hb
   ·exact absurd (if_neg hb) z
 | none =>
  refine core (fun b=>if b = a then some (.frz { cls:=.type "list",data:=.seq vs.toArray } (.lst (ns.map V.int))) else if b∈ts then some (.tbl #[]) else none) ⟨fun P hP=>?_,fun b=>?_⟩ (.inl (.inr ⟨{ cls:=.type "list",data:=.seq vs.toArray },if_pos rfl⟩)) (fun b u z=>?_) (fun b z=>?_) fun _=>hk
  ·have : P ≠ a:=fun z=>hat (z ▸ hP)
   show (if P = a then _ else if P∈ts then _ else _) = _
   rw [if_neg this,if_pos hP]
  ·by_cases hb : b = a
   ·exact .inr (.inr ⟨_,_,if_pos hb⟩)
   ·by_cases ht : b∈ts
    ·exact .inr (.inl ⟨ht,by show (if b = a then _ else if b∈ts then _ else _) = _; rw [if_neg hb,if_pos ht]⟩)
    ·exact .inl (by show (if b = a then _ else if b∈ts then _ else _) = _; rw [if_neg hb,if_neg ht])
  ·by_cases hb : b = a
   ·have z':=(if_pos hb).symm.trans z
    cases z'
    subst hb
    exact ⟨ha,by rw [List.length_map]; exact hl,vs,_,rv,ha⟩
   ·have z1 : (if b∈ts then some (HO.tbl #[]) else none) = some u:=(if_neg hb).symm.trans z
    by_cases ht : b∈ts
    ·rw [if_pos ht] at z1; cases z1
     exact hts b ht
    ·rw [if_neg ht] at z1; cases z1
  ·by_cases hb : b = a
   ·exact .inl hb
   ·by_cases ht : b∈ts
    ·exact .inr ht
    ·exact absurd (by show (if b = a then _ else if b∈ts then _ else _) = _; rw [if_neg hb,if_neg ht]) z
theorem aBF {l : W.OpenLaw} {n k : Nat} {q : Program} {loose : List Str} {XP : (Str→Option Value)→Heap→Prop} {YP : World→Heap→Prop} {d : DefRec} {K : Params→W.Frag} {CX : World→CXT} {sp : World→Sp} {x : Str} {ts : List Addr}
  (hn : l.most = some n) (hn2 : n ≤ sizeLine) (hdf : d.params.defaults = []) (hr : Room k callerA)
  (hY : ∀ (w : World) (h : Heap),YP w h→(K w.params).In h) (hT : ∀ (w : World) (h : Heap),YP w h→∀ P∈ts,h.get? P = some (W.tabObj #[]))
  (hcd : ∀ (w : World),∀ P∈ts,∃ c,W.codeHdIn (K w.params) c P = true) (hkt : ∀ (w : World),∀ P∈ts,(K w.params).lookup P = none)
  (F : ∀ (w : World) (mg : Str→Option Value) (fa : Addr) (h : Heap),(K w.params).In h→h.Ns mainGlobals mg→mg d.name = some (.ref fa) →
   ∃ fd : FuncData,(∀ (s : Shared) (u : Value),BindsTo s fd ⟨[u],[]⟩ [(x,u)]) ∧
    ∀ base : Heap,(K w.params).In base→base.Ns mainGlobals mg→BmOk mg base→FnOk l.prog w (K w.params) mg base (CX w) k fa fd [x] (sp w))
  (hsp : ∀ (w : World) (H : Hp) (a : Addr) (ns : List Int),ns.length ≤ n→rP ts H→SqL (K w.params) H a (ns.map V.int)→sp w [.ref a] H (fun v _=>v = .bl true) fun _ _ _=>False)
  (hCX : ∀ (w : World) (H : Hp) (s : Shared) (e : Value) (s' : Shared),CX w [] H s (fun _ _ _=>False) e s'→False) :
  W.WalkO q loose XP YP l.row.toRowW d [] (fun f vs=>PySem.call f vs):=by
 refine Att.attach_call hn hdf fun w s₀ s₁ mg mb fa o pm cd doc a vs ns G Y ho hd hcd' hmg hobj hints hlen hg=>?_
 have KX:=hY w _ Y
 obtain ⟨fd,hb,hF⟩:=F w mg fa _ KX G.T.g hmg
 have hB : BmOk mg s₁.heap:=by
  obtain ⟨bm,ob,b1,b2,b3,b4,b5,b6⟩:=G.T.bmain
  refine ⟨bm,ob,b1,b2,fun z=>?_,b3,b4,b5,b6⟩
  obtain ⟨o',es,ep,e,hd',_⟩:=G.T.g
  rw [z,e] at b3; cases b3; rw [hd'] at b6; cases b6
 exact aAu KX G.T.g G.T.b G.T.builtins G.T.nolimit hg hB (hT w _ Y) (hcd w) (hkt w) hobj hints (Nat.le_trans hlen hn2) hr hF hb (fun H hO hS=>hsp w H a ns hlen hO hS) fun H e s'=>hCX w H s₁ e s'
structure FunC (K : W.Frag) (x qual : Str) (st : Stmt) (f : Addr) (fd : FuncData) (c : Addr) : Prop where
 ex : ∃ (oc : Value) (od : Option Addr) (kV doc pm : Value) (an : Option Addr) (ct : Value) (osl : Array (Option Value)),
  fd = W.fnOf x qual (cM st) (bY st) (aG st) .none kV doc pm an (.ref c) ct∧K.lookup f = some ⟨oc,od,.func fd,osl⟩∧W.codeIn K (.ref c) qual = true
 kp : W.keepIn K (.ref f) = true
theorem FunC.fun {K : W.Frag} {x qual : Str} {st : Stmt} {f : Addr} {fd : FuncData} {c : Addr} (F : FunC K x qual st f fd c) : Fun K x qual st f fd:=by
 obtain ⟨oc,od,kV,doc,pm,an,ct,osl,e,lk,hcd⟩:=F.ex
 exact ⟨⟨oc,od,kV,doc,pm,an,_,ct,osl,e,lk,hcd⟩,F.kp⟩
section
variable {P : Program} {w : World} {K : W.Frag} {mg : Str→Option Value} {base : Heap}
theorem FunC.ok {x qual : Str} {st : Stmt} {f : Addr} {fd : FuncData} {c : Addr} {N ps : List Str} {k : Nat} {sp : Sp} (F : FunC K x qual st f fd c) (S : aM N ps (aG st)) (len : ∀ vs H Q E,sp vs H Q E→vs.length = ps.length)
  (hbody : ∀ (A : Around) (outer : List Env) (s : Shared) (H : Hp) (vs : List V) (Q : VK) (E : XK),Room k (A.deeper (envOfC qual (aG st) s.heap.objs.size f (.ref c)))→sp vs H Q E →
   ∃ t,PSs (cxOf CX0 P w K mg base N qual (aG st) f (.ref c) A outer s H E).nox (bY st) t∧t { nx:=fun _ H'=>Q .non H',rt:=Q } (start N vs) H) : FnOk P w K mg base CX0 (k + 1) f fd ps sp:=by
 obtain ⟨oc,od,kV,doc,pm,an,ct,osl,rfl,lk,hcd⟩:=F.ex
 refine xQ lk hcd S len fun A outer s H vs Q E hr hsp=>?_
 obtain ⟨t,h,q⟩:=hbody A outer s H vs Q E hr hsp
 exact ⟨t,h.nox,q⟩
theorem aCO {x qual : Str} {st : Stmt} {f c : Addr} {oc : Value} {od an : Option Addr} {osl : Array (Option Value)} {kV doc pm ct : Value} (l : K.lookup f = some ⟨oc,od,.func (W.fnOf x qual (cM st) (bY st) (aG st) .none kV doc pm an (.ref c) ct),osl⟩)
  (hcd : W.codeIn K (.ref c) qual = true) (kp : W.keepIn K (.ref f) = true) : FunC K x qual st f (W.fnOf x qual (cM st) (bY st) (aG st) .none kV doc pm an (.ref c) ct) c:=⟨⟨oc,od,kV,doc,pm,an,ct,osl,rfl,l,hcd⟩,kp⟩
theorem aCP {N : List Str} {qual : Str} {scope : Scope} {f c P' : Addr} {CX : CXT} {A : Around} {outer : List Env} {s : Shared} {H : Hp} {E : XK} (kb : K.In base) (hb : BmOk mg base) (hc : W.codeHdIn K c P' = true) :
  LamC (cxOf CX P w K mg base N qual scope f (.ref c) A outer s H E).nox c P':=⟨rfl,W.codeHd_of_K kb hc,hb⟩
end
end L2
namespace L2
open PySem PySem.Spec PyProof.Rows
def lV (sc scX : Scope) (y : Str × NameKind) : Bool:=match y.2 with
 | .cell=>(match sc.names.lookup y.1 with | some .cell=>true | _=>false)
 | .local=>(match sc.names.lookup y.1 with | some .local=>true | _=>false)
 | .free=>(match scX.names.lookup y.1 with | some .cell=>true | some .free=>true | _=>false)
 | _=>true
def aAv (NB : List Str) (src : List (Option Nat)) (sc : Scope) (N : List Str) (i : Nat) : Bool:=match NB[i]?,src[i]? with
 | some x,some (some j)=>(N[j]? == some x) && (match sc.names.lookup x with | some .free=>true | _=>false)
 | _,_=>true
def wE (sc : Scope) : Bool:=match sc.kind with | .function=>true | _=>false
def aAw (NB : List Str) (src : List (Option Nat)) (sc scX : Scope) (N : List Str) : Bool :=
 wE sc && decide NB.Nodup && (src.length == NB.length) && (sc.names.all (lV sc scX)) && (List.range NB.length).all (aAv NB src sc N)
theorem bU {NB : List Str} {src : List (Option Nat)} {sc : Scope} {X : Cx} (h : aAw NB src sc X.env.scope X.N = true) : eU NB src sc X:=by
 unfold aAw at h
 simp only [Bool.and_eq_true,decide_eq_true_eq,beq_iff_eq,List.all_eq_true] at h
 obtain ⟨⟨⟨⟨h1,h2⟩,h3⟩,h4⟩,h5⟩:=h
 refine ⟨?_,h2,h3,fun y hy z=>?_,fun y hy z=>?_,fun y hy z=>?_,fun i x j e1 e2=>?_⟩
 ·unfold wE at h1
  split at h1
  ·assumption
  ·cases h1
 ·have:=h4 y hy
  obtain ⟨n,k⟩:=y
  obtain rfl : k = .cell:=z
  dsimp only [lV] at this ⊢
  split at this
  ·assumption
  ·cases this
 ·have:=h4 y hy
  obtain ⟨n,k⟩:=y
  obtain rfl : k = .local:=z
  dsimp only [lV] at this ⊢
  split at this
  ·assumption
  ·cases this
 ·have:=h4 y hy
  obtain ⟨n,k⟩:=y
  obtain rfl : k = .free:=z
  dsimp only [lV] at this ⊢
  split at this
  ·exact .inl (by assumption)
  ·exact .inr (by assumption)
  ·cases this
 ·have hi : i < NB.length:=(List.getElem?_eq_some_iff.mp e1).1
  have:=h5 i (List.mem_range.mpr hi)
  unfold aAv at this
  rw [e1,e2] at this
  simp only [Bool.and_eq_true,beq_iff_eq] at this
  refine ⟨this.1,?_⟩
  have t2:=this.2
  split at t2
  ·assumption
  ·cases t2
theorem cQ {K : W.Frag} {a D : Addr} {xs : List V} {g : TG} {tt : TT} {te : TE} {fin : Hp→Prop} {σB : St} {H0 : Hp} (Pv : Nat→List V→St→Hp→Prop) (h0 : Pv 0 [] σB H0)
  (hl : ∀ i ys σ H,i ≤ xs.length→Pv i ys σ H→SqL K H a xs)
  (hs : ∀ i x ys σ H (Kt : V→St→Hp→Prop) (Kf : St→Hp→Prop),xs[i]? = some x→Pv i ys σ H →
   (∀ v σ2 H4,H4 D = some (.lst ys)→ys.length < sizeLine→Pv (i + 1) (ys ++ [v]) σ2 (upd H4 D (.lst (ys ++ [v])))→Kt v σ2 H4)→(∀ σ2 H3,Pv (i + 1) ys σ2 H3→Kf σ2 H3) →
   g x σ H fun σ2 H2=>tt σ2 H2 fun b H3=>if b = true then te σ2 H3 fun v H4=>Kt v σ2 H4 else Kf σ2 H3)
  (hd : ∀ ys σ H,Pv xs.length ys σ H→fin H) : gC (Itl K a) g tt te D fin σB H0:=by
 refine ⟨fun i m σ H=>m = xs.length - i∧i ≤ xs.length∧∃ ys,Pv i ys σ H,⟨xs.length,by simp,Nat.zero_le _,[],h0⟩,?_⟩
 rintro i m σ H ⟨rfl,hi,ys,p⟩
 have q:=hl i ys σ H hi p
 by_cases hlt : i < xs.length
 ·refine .inr ⟨⟨xs,xs[i],q,by simp [hlt]⟩,?_⟩
  rintro x H' ⟨rfl,y⟩
  exact hs i x ys σ _ (fun v σ2 H4=>∃ ys,H4 D = some (.lst ys)∧ys.length < sizeLine∧∃ m',m' < xs.length - i∧m' = xs.length - (i + 1)∧i + 1 ≤ xs.length∧∃ ys',Pv (i + 1) ys' σ2 (upd H4 D (.lst (ys ++ [v]))))
   (fun σ2 H3=>∃ m',m' < xs.length - i∧m' = xs.length - (i + 1)∧i + 1 ≤ xs.length∧∃ ys',Pv (i + 1) ys' σ2 H3) (y xs q) p
   (fun v σ2 H4 z1 z2 z3=>⟨ys,z1,z2,_,by omega,rfl,hlt,_,z3⟩) (fun σ2 H3 z=>⟨_,by omega,rfl,hlt,_,z⟩)
 ·have e : i = xs.length:=by omega
  subst e
  exact .inl ⟨⟨xs,q,Nat.le_refl _⟩,hd ys σ H p⟩
theorem cV {lo : Int} {n : Nat} {D : Addr} {g : TG} {tt : TT} {te : TE} {fin : Hp→Prop} {σB : St} {H0 : Hp} (Pv : Nat→List V→St→Hp→Prop) (h0 : Pv 0 [] σB H0)
  (hs : ∀ i ys σ H (Kt : V→St→Hp→Prop) (Kf : St→Hp→Prop),i < n→Pv i ys σ H →
   (∀ v σ2 H4,H4 D = some (.lst ys)→ys.length < sizeLine→Pv (i + 1) (ys ++ [v]) σ2 (upd H4 D (.lst (ys ++ [v])))→Kt v σ2 H4)→(∀ σ2 H3,Pv (i + 1) ys σ2 H3→Kf σ2 H3) →
   g (.int (lo + i)) σ H fun σ2 H2=>tt σ2 H2 fun b H3=>if b = true then te σ2 H3 fun v H4=>Kt v σ2 H4 else Kf σ2 H3)
  (hd : ∀ ys σ H,Pv n ys σ H→fin H) : gC (Itr lo n) g tt te D fin σB H0:=by
 refine ⟨fun i m σ H=>m = n - i∧i ≤ n∧∃ ys,Pv i ys σ H,⟨n,by simp,Nat.zero_le _,[],h0⟩,?_⟩
 rintro i m σ H ⟨rfl,hi,ys,p⟩
 by_cases hlt : i < n
 ·refine .inr ⟨hlt,?_⟩
  rintro x H' ⟨rfl,rfl⟩
  exact hs i ys σ _ (fun v σ2 H4=>∃ ys,H4 D = some (.lst ys)∧ys.length < sizeLine∧∃ m',m' < n - i∧m' = n - (i + 1)∧i + 1 ≤ n∧∃ ys',Pv (i + 1) ys' σ2 (upd H4 D (.lst (ys ++ [v]))))
   (fun σ2 H3=>∃ m',m' < n - i∧m' = n - (i + 1)∧i + 1 ≤ n∧∃ ys',Pv (i + 1) ys' σ2 H3) hlt p
   (fun v σ2 H4 z1 z2 z3=>⟨ys,z1,z2,_,by omega,rfl,hlt,_,z3⟩) (fun σ2 H3 z=>⟨_,by omega,rfl,hlt,_,z⟩)
 ·have e : i = n:=by omega
  subst e
  exact .inl ⟨Nat.le_refl _,hd ys σ H p⟩
end L2
namespace L2
open PySem PySem.Spec PyProof.Rows
section
variable {κ : Type} [DecidableEq κ]
def valV (kvs : List (κ × V)) (k : κ) : Option V:=(kvs.find? fun kv=>decide (kv.1 = k)).map (·.2)
def putK (kvs : List (κ × V)) (k : κ) (v : V) : List (κ × V) :=
 if (kvs.any fun kv=>decide (kv.1 = k)) = true then kvs.map (fun kv=>if kv.1 = k then (kv.1,v) else kv) else kvs ++ [(k,v)]
theorem jW {p : κ × V} {r : List (κ × V)} {k : κ} (e : p.1 = k) : valV (p :: r) k = some p.2:=by simp [valV,List.find?_cons,e]
theorem jX {p : κ × V} {r : List (κ × V)} {k : κ} (e : ¬ p.1 = k) : valV (p :: r) k = valV r k:=by simp [valV,List.find?_cons,e]
theorem nB (k : κ) : ∀ kvs : List (κ × V),(kvs.any fun kv=>decide (kv.1 = k)) = (valV kvs k).isSome
 | []=>rfl
 | p :: r=>by
  rw [List.any_cons]
  by_cases e : p.1 = k
  ·simp only [jW e,decide_eq_true e,Bool.true_or,Option.isSome_some]
  ·rw [jX e,decide_eq_false e,Bool.false_or]; exact nB k r
theorem iT (kvs : List (κ × V)) (k : κ) (v : V) : (putK kvs k v).length ≤ kvs.length + 1:=by
 unfold putK
 split
 ·rw [List.length_map]; omega
 ·rw [List.length_append,List.length_cons,List.length_nil]; omega
theorem aBG {kvs : List (κ × V)} {k : κ} (v : V) (h : valV kvs k = none) : putK kvs k v = kvs ++ [(k,v)]:=by
 unfold putK
 rw [nB,h]
 exact if_neg (by decide)
theorem RelO.isSome_eq {o : Option V} {u : Option Value} (r : RelO o u) : o.isSome = u.isSome:=by
 cases o with
 | none=>cases u with
  | none=>rfl
  | some _=>exact (show False from r).elim
 | some _=>cases u with
  | none=>exact (show False from r).elim
  | some _=>rfl
theorem KV.val {kvs : List (κ × V)} {vs : List (κ × Value)} (r : KV kvs vs) (k : κ) : RelO (valV kvs k) (valueAt vs k):=by
 unfold KV at r
 induction r with
 | nil=>exact True.intro
 | @cons p q ps qs h t ih =>
  obtain ⟨h1,h2⟩:=h
  by_cases e : p.1 = k
  ·have e' : q.1 = k:=h1.symm.trans e
   have b : valueAt (q :: qs) k = some q.2:=by simp [valueAt,List.find?_cons,e']
   rw [jW e,b]; exact h2
  ·have e' : ¬ q.1 = k:=fun z=>e (h1.trans z)
   have b : valueAt (q :: qs) k = valueAt qs k:=by simp [valueAt,List.find?_cons,e']
   rw [jX e,b]; exact ih
theorem KV.any {kvs : List (κ × V)} {vs : List (κ × Value)} (r : KV kvs vs) (k : κ) : (kvs.any fun kv=>decide (kv.1 = k)) = vs.any fun kv=>decide (kv.1 = k):=by
 unfold KV at r
 induction r with
 | nil=>rfl
 | cons h t ih=>rw [List.any_cons,List.any_cons,ih,h.1]
theorem KV.repl {kvs : List (κ × V)} {vs : List (κ × Value)} (r : KV kvs vs) (k : κ) {y : V} {u : Value} (ry : RelV y u) :
  KV (kvs.map fun kv=>if kv.1 = k then (kv.1,y) else kv) (vs.map fun kv=>if kv.1 = k then (kv.1,u) else kv):=by
 unfold KV at r ⊢
 induction r with
 | nil=>exact .nil
 | @cons p q ps qs h t ih =>
  rw [List.map_cons,List.map_cons]
  refine .cons ?_ ih
  obtain ⟨h1,h2⟩:=h
  by_cases e : p.1 = k
  ·rw [if_pos e,if_pos (h1.symm.trans e)]; exact ⟨h1,ry⟩
  ·rw [if_neg e,if_neg (fun z=>e (h1.trans z))]; exact ⟨h1,h2⟩
theorem KV.put {kvs : List (κ × V)} {vs : List (κ × Value)} (r : KV kvs vs) (k : κ) {y : V} {u : Value} (ry : RelV y u) : KV (putK kvs k y) (stored vs k u):=by
 unfold putK stored
 rw [r.any k]
 by_cases e : (vs.any fun kv=>decide (kv.1 = k)) = true
 ·rw [if_pos e,if_pos e]; exact r.repl k ry
 ·rw [if_neg e,if_neg e]; exact Paired.snoc r ⟨rfl,ry⟩
theorem KV.length {kvs : List (κ × V)} {vs : List (κ × Value)} (r : KV kvs vs) : kvs.length = vs.length:=Paired.length r
end
theorem oK {P : Program} {w : World} {k : Key} {u : Value} (r : RelV (kV k) u) : (cL P w).is k u = true:=by
 cases k with
 | inl i=>obtain ⟨t,e⟩:=(show ∃ t,u = Value.int i t from r); subst e; exact uX P w i t
 | inr x=>obtain ⟨t,e⟩:=(show ∃ t,u = Value.str x t from r); subst e; exact uY P w x t
theorem rC {P : Program} {w : World} : ∀ {ks : List Key} {us : List Value},Vals (ks.map kV) us→ItemsAre (cL P w) ks us
 | [],_,r=>by rw [List.map_nil] at r; cases r; exact .nil
 | k :: ks,_,r=>by
  rw [List.map_cons] at r
  cases r with
  | cons h t=>exact .cons (oK h) (rC t)
abbrev KT (H : Hp) : List (List Key × V)→List (List Key × Addr × Value)→Prop:=Paired fun p q=>p.1 = q.1∧H q.2.1 = some (.tup (p.1.map kV))∧RelV p.2 q.2.2
theorem KT.val {H : Hp} {kvs : List (List Key × V)} {xs : List (List Key × Addr × Value)} (r : KT H kvs xs) (k : List Key) : RelO (valV kvs k) ((atKey xs k).map (·.2)):=by
 induction r with
 | nil=>exact True.intro
 | @cons p q ps qs h t ih =>
  obtain ⟨h1,_,h2⟩:=h
  by_cases e : p.1 = k
  ·have e' : q.1 = k:=h1.symm.trans e
   have b : atKey (q :: qs) k = some q.2:=by simp [atKey,List.find?_cons,e']
   rw [jW e,b]; exact h2
  ·have e' : ¬ q.1 = k:=fun z=>e (h1.trans z)
   have b : atKey (q :: qs) k = atKey qs k:=by simp [atKey,List.find?_cons,e']
   rw [jX e,b]; exact ih
theorem KT.repl {H : Hp} {kvs : List (List Key × V)} {xs : List (List Key × Addr × Value)} (r : KT H kvs xs) (k : List Key) {y : V} {u : Value} (ry : RelV y u) :
  KT H (kvs.map fun kv=>if kv.1 = k then (kv.1,y) else kv) (xs.map (putAt k u)):=by
 induction r with
 | nil=>exact .nil
 | @cons p q ps qs h t ih =>
  rw [List.map_cons,List.map_cons]
  refine .cons ?_ ih
  obtain ⟨h1,h2,h3⟩:=h
  unfold putAt
  by_cases e : p.1 = k
  ·rw [if_pos e,if_pos (h1.symm.trans e)]; exact ⟨h1,h2,ry⟩
  ·rw [if_neg e,if_neg (fun z=>e (h1.trans z))]; exact ⟨h1,h2,h3⟩
theorem KT.put {H : Hp} {kvs : List (List Key × V)} {xs : List (List Key × Addr × Value)} (r : KT H kvs xs) (k : List Key) {b : Addr} {y : V} {u : Value} (hb : H b = some (.tup (k.map kV))) (ry : RelV y u) :
  KT H (putK kvs k y) (storedH xs k b u):=by
 have e : (kvs.any fun kv=>decide (kv.1 = k)) = (atKey xs k).isSome:=by
  rw [nB,(r.val k).isSome_eq,Option.isSome_map]
 unfold putK storedH
 rw [e]
 by_cases q : (atKey xs k).isSome = true
 ·rw [if_pos q,if_pos q]; exact r.repl k ry
 ·rw [if_neg q,if_neg q]; exact Paired.snoc r ⟨rfl,hb,ry⟩
theorem KT.keeps {H H' : Hp} {kvs : List (List Key × V)} {xs : List (List Key × Addr × Value)} (r : KT H kvs xs) (ht : ∀ b ys,H b = some (.tup ys)→H' b = some (.tup ys)) : KT H' kvs xs :=
 Paired.mapP r fun _ _ z=>⟨z.1,ht _ _ z.2.1,z.2.2⟩
section
variable {P : Program} {w : World} {H : Hp} {h : Heap} {a : Addr}
theorem aCj {u : HO} (ok : HOk P w H h) (e : Rd H a u) : bN P w H h a u:=e.ok ok
theorem rQ {kvs : List (Key × V)} (ok : HOk P w H h) (e : Rd H a (.dK kvs)) : kvs.length ≤ sizeLine∧(a == sysModules) = false∧∃ vs,KV kvs vs∧h.DictOf (cL P w) a vs :=
 show bN P w H h a (.dK kvs) from aCj ok e
theorem aCk {kvs : List (Key × V)} (ok : HOk P w H h) (e : H a = some (.dK kvs)) : kvs.length ≤ sizeLine∧(a == sysModules) = false∧∃ vs,KV kvs vs∧h.DictOf (cL P w) a vs:=rQ ok (.inl e)
theorem eO {ks : List Key} (ok : HOk P w H h) (e : H a = some (.tup (ks.map kV))) : (tupleKind (cL P w)).is h ks a:=by
 obtain ⟨_,its,r,o,h1,h2,n,h3⟩:=(show bN P w H h a (.tup (ks.map kV)) from ok a _ e)
 exact ⟨o,its.toArray,n,h1,h2,h3,by simpa using rC r⟩
theorem rR {kvs : List (List Key × V)} (ok : HOk P w H h) (e : Rd H a (.dT kvs)) : kvs.length ≤ sizeLine∧(a == sysModules) = false ∧
  ∃ xs,KT H kvs xs∧h.DictOfH (tupleKind (cL P w)) a xs:=by
 obtain ⟨z,y,xs,r,o,es,ep,h1,h2,h3,h4,h5⟩:=(show bN P w H h a (.dT kvs) from aCj ok e)
 refine ⟨z,y,xs,r,o,es,ep,h1,h2,h3,h4,fun x hx=>?_,h5⟩
 have all : ∀ {l : List (List Key × V)} {m : List (List Key × Addr × Value)},KT H l m→∀ x∈m,(tupleKind (cL P w)).is h x.1 x.2.1:=by
  intro l m q
  induction q with
  | nil=>intro x hx; exact nomatch hx
  | @cons p q ps qs hq t ih =>
   intro x hx
   rcases List.mem_cons.mp hx with e | hx
   ·subst e
    exact eO ok (by rw [← hq.1]; exact hq.2.1)
   ·exact ih x hx
 exact all r x hx
theorem aEC {kvs : List (List Key × V)} (ok : HOk P w H h) (e : H a = some (.dT kvs)) : kvs.length ≤ sizeLine∧(a == sysModules) = false ∧
  ∃ xs,KT H kvs xs∧h.DictOfH (tupleKind (cL P w)) a xs:=rR ok (.inl e)
end
def DGet (H : Hp) (a : Addr) (y : V) (r : Option V) : Prop :=
 (∃ kvs k,Rd H a (.dK kvs)∧y = kV k∧r = valV kvs k)∨∃ kvs k b,Rd H a (.dT kvs)∧y = .ref b∧H b = some (.tup (k.map kV))∧r = valV kvs k
def DPut (H : Hp) (a : Addr) (y v : V) (H' : Hp) : Prop :=
 (∃ kvs k,H a = some (.dK kvs)∧y = kV k∧kvs.length < sizeLine∧H' = upd H a (.dK (putK kvs k v))) ∨
 ∃ kvs k b,H a = some (.dT kvs)∧y = .ref b∧H b = some (.tup (k.map kV))∧kvs.length < sizeLine∧H' = upd H a (.dT (putK kvs k v))
theorem DGet.k {H : Hp} {a : Addr} {kvs : List (Key × V)} {k : Key} (e : H a = some (.dK kvs)) : DGet H a (kV k) (valV kvs k):=.inl ⟨kvs,k,.inl e,rfl,rfl⟩
theorem DPut.k {H : Hp} {a : Addr} {kvs : List (Key × V)} {k : Key} {v : V} (e : H a = some (.dK kvs)) (hl : kvs.length < sizeLine) : DPut H a (kV k) v (upd H a (.dK (putK kvs k v))):=.inl ⟨kvs,k,e,rfl,hl,rfl⟩
section
variable {X : Cx} {pins : List (Addr × Obj)} {σ : St} {H : Hp} {s : Shared} {a : Addr} {y v : V} {u r : Value} {o : Option V} {A : Around} {E : Value→Shared→Prop}
theorem Inv.big (I : Inv X pins σ H s) : sysModules < s.heap.objs.size:=by
 have h : mainGlobals < s.heap.objs.size:=(I.mod.glob.keeps I.bk).lt
 exact Nat.lt_trans (by decide) h
theorem aAx {Q : Value→Shared→Prop} (hu : A.units + 1 < cLine) (I : Inv X pins σ H s) (g : DGet H a y (some v)) (ry : RelV y u) (h : ∀ w' s',Inv X pins σ H s'→RelV v w'→Q w' s') :
  wpAny (model X.prog X.w) A (getItem (.ref a) u) Q E s:=by
 rcases g with ⟨kvs,k,e,ey,l⟩ | ⟨kvs,k,b,e,ey,eb,l⟩
 ·subst ey
  obtain ⟨z,hd,vs,rel,dd⟩:=rQ I.hok e
  obtain ⟨w',hw,rw'⟩:=RelO.some_of (v:=v) (o:=valueAt vs k) (by rw [l]; exact rel.val k)
  exact wpAny_getItem_of (oK ry) dd.mapOf hw (h w' _ (I.tok _) rw')
 ·subst ey
  cases (show u = Value.ref b from ry)
  obtain ⟨z,hd,xs,rel,dd⟩:=rR I.hok e
  obtain ⟨w',hw,rw'⟩:=RelO.some_of (v:=v) (o:=(atKey xs k).map (·.2)) (by rw [l]; exact rel.val k)
  obtain ⟨p,hp,hp2⟩:=Option.map_eq_some_iff.mp hw
  refine wpAny_getItem_heap (tupleKind_room_in1 hu) (eO I.hok eb) dd hp ?_
  rw [hp2]
  exact h w' _ (I.tok _) rw'
theorem aCQ {Q : Value→Shared→Prop} (hu : A.units + 1 < cLine) (I : Inv X pins σ H s) (g : DGet H a y o) (ry : RelV y u) (h : ∀ s',Inv X pins σ H s'→Q (.bool (!o.isSome)) s') :
  wpAny (model X.prog X.w) A (compareOp .NotIn u (.ref a)) Q E s:=by
 rcases g with ⟨kvs,k,e,ey,l⟩ | ⟨kvs,k,b,e,ey,eb,l⟩
 ·subst ey
  obtain ⟨z,hd,vs,rel,dd⟩:=rQ I.hok e
  refine wpAny_notIn_of (oK ry) hd dd.mapOf ?_
  rw [← (rel.val k).isSome_eq,← l]
  exact h _ (I.tok _)
 ·subst ey
  cases (show u = Value.ref b from ry)
  obtain ⟨z,hd,xs,rel,dd⟩:=rR I.hok e
  refine wpAny_notIn_heap (tupleKind_room_in1 hu) (eO I.hok eb) hd dd ?_
  have q:=(rel.val k).isSome_eq
  rw [Option.isSome_map] at q
  rw [← q,← l]
  exact h _ (I.tok _)
theorem pN {h' : Heap} {t' : Nat} {ob : HO} (I : Inv X pins σ H s) (mu : Mut (H a)) (hs : Heap.SameBut a s.heap h') (he : ∃ q,h'.get? a = some q) (new : bN X.prog X.w (upd H a ob) h' a ob) :
  Inv X pins σ (upd H a ob) { s with heap:=h',toks:=t' } :=
 I.write (x:=a) (e:=a) mu (.inl rfl) (fun b q hb z=>(hs.2 b hb).trans z) he new
theorem aAy {P : Program} {w : World} {H' : Hp} {h' : Heap} {kvs : List (Key × V)} {vs : List (Key × Value)} (z : kvs.length ≤ sizeLine) (hd : (a == sysModules) = false) (rel : KV kvs vs) (dd : h'.DictOf (cL P w) a vs) :
  bN P w H' h' a (.dK kvs):=⟨z,hd,vs,rel,dd⟩
theorem aAz {H' : Hp} {Q : Unit→Shared→Prop} (hu : A.units + 1 < cLine) (I : Inv X pins σ H s) (g : DPut H a y v H') (ry : RelV y u) (rv : RelV v r) (h : ∀ s',Inv X pins σ H' s'→Q () s') :
  wpAny (model X.prog X.w) A (setItem (.ref a) u r) Q E s:=by
 rcases g with ⟨kvs,k,e,ey,l,eH⟩ | ⟨kvs,k,b,e,ey,eb,l,eH⟩
 ·subst ey eH
  obtain ⟨z,hd,vs,rel,dd⟩:=aCk I.hok e
  have hz : vs.length ≤ sizeLine:=by rw [← rel.length]; exact z
  have hl : (putK kvs k v).length ≤ sizeLine:=by have:=iT kvs k v; omega
  refine wpAny_setItem_pairs (hsz:=hz) (oK ry) dd fun h' dd' hs=>h _ ?_
  have he : ∃ q,h'.get? a = some q:=let ⟨q,_,_,hq,_⟩:=dd'; ⟨q,hq⟩
  exact pN I (by rw [e]; exact True.intro) hs he (aAy hl hd (rel.put k rv) dd')
 ·subst ey eH
  cases (show u = Value.ref b from ry)
  obtain ⟨z,hd,xs,rel,dd⟩:=aEC I.hok e
  have hz : xs.length ≤ sizeLine:=by rw [← Paired.length rel]; exact z
  have hl : (putK kvs k v).length ≤ sizeLine:=by have:=iT kvs k v; omega
  refine wpAny_setItem_heap (hsz:=hz) (tupleKind_room_in1 hu) (eO I.hok eb) dd fun h' dd' hs=>h _ ?_
  obtain ⟨q,es,ep,hq,h2,h3,h4,_,h5⟩:=dd'
  refine pN I (by rw [e]; exact True.intro) hs ⟨q,hq⟩ ⟨hl,hd,_,(rel.put k eb rv).keeps fun c ys ec=>?_,q,es,ep,hq,h2,h3,h4,h5⟩
  rw [aH (cU ec e (fun z=>nomatch z))]
  exact ec
end
section
variable {X : Cx} {pins : List (Addr × Obj)} {σ : St} {H : Hp} {s : Shared} {a : Addr} {kvs : List (Key × V)} {k : Key} {u : Value} {A : Around} {E : Value→Shared→Prop}
end
def NoSl (i : Expr) : Prop:=∀ ov iv,subscripted i false ov iv = operate [ov,iv] (getItem ov iv)
theorem aCR {prog : Program} {w : World} {A : Around} {E : Value→Shared→Prop} {s : Shared} {env : Env} {value slice : Expr} {pos : Pos} {T id : String} {Q : Value→Shared→Prop}
  (hl : typeLookup (.type T) "__getitem__" = pure (some (.builtin id))) (hs : NoSl slice)
  (h : wpAny (model prog w) A (eval value env) (fun o s₁=>wpAny (model prog w) A (eval slice env) (fun i s₂=>s₂.TypeIs o T∧wpAny (model prog w) A (getItem o i) Q E s₂) E s₁) E s) :
  wpAny (model prog w) A (eval (.Subscript value slice pos) env) Q E s:=by
 refine Subscript_ (wpAny_mono h (fun o s₁ h₁=>wpAny_mono h₁ (fun i s₂ h₂=>?_) fun _ _ x=>x) fun _ _ x=>x)
 obtain ⟨hT,h₂⟩:=h₂
 unfold subscriptTail
 refine wpAny_bind ?_
 rw [getitemInPython_of_ne hT.not_modules]
 refine wpAny_bind (wpAny_specialOf hT hl ?_)
 have fin : wpAny (model prog w) A (subscripted slice false o i) (fun r s₃=>wpAny (model prog w) A (letTemporaryGo value o r >>= fun _=>pure r) Q E s₃) E s₂:=by
  rw [hs o i]
  exact wpAny_operating (wpAny_mono h₂ (fun r s₃ h₃=>wpAny_bind (wpAny_letTemporaryGo (wpAny_pure h₃))) fun _ _ x=>x)
 first
  | exact wpAny_pure (wpAny_bind fin)
  | exact wpAny_bind (wpAny_pure (wpAny_bind fin))
  | exact wpAny_bind fin
theorem vH {X : Cx} {pins : List (Addr × Obj)} {σ : St} {H : Hp} {s : Shared} {a : Addr} {y : V} {o : Option V} (I : Inv X pins σ H s) (g : DGet H a y o) : s.TypeIs (.ref a) "dict" := by
 rcases g with ⟨kvs,k,e,_,_⟩ | ⟨kvs,k,b,e,_,_,_⟩
 ·obtain ⟨_,_,vs,_,dd⟩:=rQ I.hok e
  exact dd.typeIs
 ·obtain ⟨_,_,xs,_,dd⟩:=rR I.hok e
  exact dd.typeIs
def aCl (td ty : TE) : TE:=fun σ H Q=>td σ H fun x H1=>ty σ H1 fun y H2=>∃ a v,x = .ref a∧DGet H2 a y (some v)∧Q v H2
def wF (ty td : TE) : TE:=fun σ H Q=>ty σ H fun y H1=>td σ H1 fun x H2=>∃ a o,x = .ref a∧DGet H2 a y o∧Q (.bl (!o.isSome)) H2
def aED (td ty tv : TE) : TS:=fun D σ H=>tv σ H fun v H1=>td σ H1 fun x H2=>ty σ H2 fun y H3=>∃ a H4,x = .ref a∧DPut H3 a y v H4∧D.nx σ H4
section
variable {X : Cx} {o i e value : Expr} {pos pos' tpos : Pos} {td ty tv : TE}
theorem wG (hu : X.A.units + 1 < cLine) (ho : PE X o td) (hi : PE X i ty) (hs : NoSl i) : PE X (.Subscript o i pos) (aCl td ty):=by
 intro pins s σ H Q I h
 refine aCR PySem.F.slot_dict_getitem.lookup hs (thn (ho pins s σ H _ I h) fun u s1 ⟨x,H1,I1,rx,q1⟩=>thn (hi pins s1 σ H1 _ I1 q1) fun iv s2 ⟨y,H2,I2,ry,a,v,ex,g,q2⟩=>?_)
 subst ex
 obtain rfl : u = Value.ref a:=rx
 exact ⟨vH I2 g,aAx hu I2 g ry fun w' s3 I3 rw'=>⟨v,H2,I3,rw',q2⟩⟩
theorem aAA (hu : X.A.units + 1 < cLine) (hi : PE X i ty) (ho : PE X o td) : PC X .NotIn i o (wF ty td):=by
 intro pins s σ H Q I h
 refine thn (hi pins s σ H _ I h) fun iv s1 ⟨y,H1,I1,ry,q1⟩=>thn (ho pins s1 σ H1 _ I1 q1) fun u s2 ⟨x,H2,I2,rx,a,ov,ex,g,q2⟩=>?_
 subst ex
 obtain rfl : u = Value.ref a:=rx
 exact aCQ hu I2 g ry fun s3 I3=>⟨.bl (!ov.isSome),H2,I3,rfl,q2⟩
theorem aCS (hu : X.A.units + 1 < cLine) (ho : PE X o td) (hi : PE X i ty) (hv : PE X value tv) (hs : swapsWith value (some (.Subscript o i pos')) pos.line X.env = pure false) :
  PS X (.Assign [.Subscript o i pos'] value pos) (aED td ty tv):=by
 intro pins s σ H D I h
 refine wpAny_Assign_Subscript (thn (hv pins s σ H _ I h) fun r s1 ⟨v,H1,I1,rv,q1⟩=>thn (ho pins s1 σ H1 _ I1 q1) fun u s2 ⟨x,H2,I2,rx,q2⟩=>thn (hi pins s2 σ H2 _ I2 q2) fun iv s3 ⟨y,H3,I3,ry,a,H4,ex,g,q3⟩=>?_) hs
 subst ex
 obtain rfl : u = Value.ref a:=rx
 exact aAz hu I3 g ry rv fun s4 I4=>⟨σ,H4,I4,q3⟩
end
theorem aBH {P : Program} {w : World} {H : Hp} (h : Heap) (hb : sysModules < h.objs.size) : bN P w H (h.push { cls:=.type "dict",data:=.dict #[] }) h.objs.size (.dK []) :=
 ⟨Nat.zero_le _,beq_eq_false_iff_ne.mpr (Ne.symm (Nat.ne_of_lt hb)),[],.nil,Heap.DictOf.new h⟩
section
variable {X : Cx} {pos : Pos}
end
def tD : List (TE × TE)→St→Hp→(List (V × V)→Hp→Prop)→Prop
 | [],_,H,Q=>Q [] H
 | (tk,tv) :: r,σ,H,Q=>tk σ H fun x H1=>tv σ H1 fun y H2=>tD r σ H2 fun ps H3=>Q ((x,y) :: ps) H3
abbrev VV : List (V × V)→List (Value × Value)→Prop:=Paired fun p q=>RelV p.1 q.1∧RelV p.2 q.2
def PPs (X : Cx) (pos : Pos) (keys : List (Option Expr)) (values : List Expr) (trs : List (TE × TE)) : Prop :=
 ∀ (pins : List (Addr × Obj)) (s : Shared) (σ : St) (H : Hp) (Q : List (V × V)→Hp→Prop),Inv X pins σ H s→tD trs σ H Q →
  wpAny (model X.prog X.w) X.A (evalPairs (pairTrees keys values X.env pos)) (fun vs s'=>∃ ps H',Inv X pins σ H' s'∧VV ps vs∧Q ps H') X.xe s
theorem aCT {X : Cx} {pos : Pos} : PPs X pos [] [] []:=fun pins s σ H Q I h=>pairTrees_nil_walk ⟨[],H,I,.nil,h⟩
theorem aBI {X : Cx} {pos : Pos} {k v : Expr} {ks : List (Option Expr)} {vs : List Expr} {tk tv : TE} {trs : List (TE × TE)} (hk : PE X k tk) (hv : PE X v tv) (hr : PPs X pos ks vs trs) :
  PPs X pos (some k :: ks) (v :: vs) ((tk,tv) :: trs):=fun pins s σ H Q I h =>
 pairTrees_cons_walk (thn (hk pins s σ H _ I h) fun u s1 ⟨x,H1,I1,rx,q1⟩=>thn (hv pins s1 σ H1 _ I1 q1) fun w2 s2 ⟨y,H2,I2,ry,q2⟩ =>
  thn (hr pins s2 σ H2 _ I2 q2) fun ws s3 ⟨ps,H3,I3,rel,q3⟩=>⟨(x,y) :: ps,H3,I3,.cons ⟨rx,ry⟩ rel,q3⟩)
def jD (kvs more : List (Key × V)) : List (Key × V):=more.foldl (fun acc kv=>putK acc kv.1 kv.2) kvs
theorem KV.merge : ∀ {more : List (Key × V)} {rs : List (Key × Value)} {kvs : List (Key × V)} {vs : List (Key × Value)},KV more rs→KV kvs vs→KV (jD kvs more) (merged vs rs):=by
 intro more rs kvs vs r
 unfold KV at r
 induction r generalizing kvs vs with
 | nil=>intro q; exact q
 | @cons p q ps qs h t ih =>
  intro r0
  have e : KV (putK kvs p.1 p.2) (stored vs q.1 q.2):=by
   have:=r0.put p.1 h.2
   rw [← h.1]; exact this
  exact ih e
theorem kL : ∀ (more kvs : List (Key × V)),(jD kvs more).length ≤ kvs.length + more.length
 | [],kvs=>by show kvs.length ≤ kvs.length + 0; omega
 | p :: r,kvs=>by
  have h1:=kL r (putK kvs p.1 p.2)
  have h2:=iT kvs p.1 p.2
  show (jD (putK kvs p.1 p.2) r).length ≤ _
  rw [List.length_cons]; omega
theorem oM {P : Program} {w : World} : ∀ {kvs : List (Key × V)} {ws : List (Value × Value)},VV (kvs.map fun kv=>(kV kv.1,kv.2)) ws→∃ rs,Carries (cL P w) ws rs∧KV kvs rs
 | [],_,r=>by rw [List.map_nil] at r; cases r; exact ⟨[],True.intro,.nil⟩
 | p :: kvs,_,r=>by
  rw [List.map_cons] at r
  cases r with
  | @cons a b as bs h t =>
   obtain ⟨rs,c,q⟩:=oM (P:=P) (w:=w) t
   obtain ⟨b1,b2⟩:=b
   exact ⟨(p.1,b2) :: rs,⟨oK h.1,rfl,c⟩,.cons ⟨rfl,h.2⟩ q⟩
def aEE (trs : List (TE × TE)) : TE:=fun σ H Q=>∀ p,H p = none→tD trs σ (upd H p (.dK [])) fun ps H2=>H2 p = some (.dK [])∧∃ kvs : List (Key × V),ps = kvs.map (fun kv=>(kV kv.1,kv.2))∧kvs.length ≤ 15∧Q (.ref p) (upd H2 p (.dK (jD [] kvs)))
theorem aCU {X : Cx} {pos : Pos} {keys : List (Option Expr)} {values : List Expr} {trs : List (TE × TE)} (h : PPs X pos keys values trs) (hall : keys.all (·.isSome) = true) (hl : keys.length = values.length) (h0 : keys ≠ [])
  (h15 : keys.length ≤ 15) : PE X (.Dict keys values pos) (aEE trs):=by
 intro pins s σ H Q I q
 have hn:=I.hok.fresh (Nat.le_refl s.heap.objs.size)
 have I1:=I.laid (a:=s.heap.objs.size) (o:=.dK []) (h':=s.heap.push { cls:=.type "dict",data:=.dict #[] }) (t':=s.toks) (fun _ _ q=>Heap.get?_push_of_some _ q) (Nat.le_refl _) (aBH s.heap I.big)
 refine wpAny_Dict_walk (knd:=cL X.prog X.w) hall hl h0 h15 (thn (h pins _ σ _ _ I1 (q _ hn)) fun ws s2 ⟨ps,H2,I2,rel,e,kvs,ep,lk,q2⟩=>?_)
 subst ep
 obtain ⟨rs,c,rk⟩:=oM (P:=X.prog) (w:=X.w) rel
 obtain ⟨z,hd,vs0,r0,dd⟩:=aCk I2.hok e
 cases r0
 refine ⟨rs,c,dd,fun h' dd' hs=>⟨.ref s.heap.objs.size,_,?_,rfl,q2⟩⟩
 have hz : (jD [] kvs).length ≤ sizeLine:=by
  have h1:=kL kvs []
  rw [List.length_nil] at h1
  rw [sizeLine_eq]; omega
 have he : ∃ q,h'.get? s.heap.objs.size = some q:=let ⟨q,_,_,hq,_⟩:=dd'; ⟨q,hq⟩
 exact pN I2 (by rw [e]; exact True.intro) hs he (aAy hz hd (rk.merge .nil) dd')
section
variable {X : Cx} {pins : List (Addr × Obj)} {σ : St} {H : Hp} {s : Shared} {a : Addr} {y d : V} {u r : Value} {o : Option V} {A : Around} {E : Value→Shared→Prop}
end
section
variable {X : Cx} {o e f : Expr} {apos cpos : Pos} {td ty tx : TE}
end
section
variable {X : Cx} {pins : List (Addr × Obj)} {σ : St} {H : Hp} {s : Shared} {a : Addr} {kvs : List (Key × V)} {A : Around} {E : Value→Shared→Prop}
end
section
variable {X : Cx} {pins : List (Addr × Obj)} {σ : St} {H : Hp} {s : Shared} {a : Addr} {y : V} {u : Value} {A : Around} {E : Value→Shared→Prop}
end
end L2
namespace L2
open PySem PySem.Spec PyProof.Rows
section
variable {X : Cx}
end
section
variable {κ : Type} [DecidableEq κ]
end
end L2
namespace L2
open PySem PySem.Spec PyProof.Rows
section
variable {X : Cx}
end
end L2
namespace L2
open PySem PySem.Spec PyProof.Rows
end L2
namespace L2
open PySem PySem.Spec PyProof.Rows
section
variable {X : Cx}
end
end L2
namespace L2
open PySem PySem.Spec PyProof.Rows
section
variable {prog : Program} {w : World} {A : Around} {E : Value→Shared→Prop} {s : Shared}
end
end L2
namespace L2
open PySem PySem.Spec PyProof.Rows
end L2
namespace L2
open PySem PySem.Spec PyProof.Rows
section
variable {X : Cx}
end
end L2
namespace L2
open PySem PySem.Spec PyProof.Rows
section
variable {X : Cx} {tg : Expr}
end
end L2
namespace L2
open PySem PySem.Spec PyProof.Rows
end L2
namespace L2
open PySem PySem.Spec PyProof.Rows
section
variable {prog : Program} {w : World} {A : Around} {E : Value→Shared→Prop} {s : Shared} {R : Result→Shared→Prop} {l d Ia : Addr}
end
end L2
namespace L2
open PySem PySem.Spec PyProof.Rows
section
variable {prog : Program} {w : World} {A : Around} {E : Value→Shared→Prop} {s : Shared} {l : Addr}
end
end L2
namespace L2
open PySem PySem.Spec PyProof.Rows
section
variable {X : Cx}
end
end L2
namespace L2
open PySem PySem.Spec PyProof.Rows
section
variable {X : Cx}
theorem rD (hc : X.calm = true) : cK X (.builtin "all") (fun xs H Q=>∃ (p : Addr) (bs : List Bool),xs = [.ref p]∧SqL X.K H p (bs.map V.bl)∧Q (.bl (bs.all id)) H):=by
 intro pins s σ H xs us Q I r h
 obtain ⟨p,bs,rfl,hp,q⟩:=h
 obtain ⟨u1,rfl,r1⟩:=r.one
 obtain rfl : u1 = Value.ref p:=r1
 obtain ⟨its,rv,pl,hz⟩:=I.list hp
 have hits : its = bs.map Value.bool:=by
  have go : ∀ (bs : List Bool) (its : List Value),Vals (bs.map V.bl) its→its = bs.map Value.bool:=by
   intro bs
   induction bs with
   | nil=>intro its r; cases r; rfl
   | cons b bs ih =>
    intro its r
    cases r with
    | cons r rr =>
     obtain rfl:=(show _ = Value.bool b from r)
     rw [ih _ rr]; rfl
  exact go bs its rv
 subst hits
 obtain ⟨ob,hob,_⟩:=id pl.isList
 have hlt : p < s.heap.objs.size:=Heap.lt_size hob
 refine call_all_walk (wpAny_pyIter_list pl.isList ⟨s.heap.objs.size,_,_,_,_,_,fun i=>bs.getD i true,rfl,Walks.list (show X.A.in1.handled = none from I.ok.hd hc) _ p (Nat.ne_of_lt hlt) _,⟨⟨_,Heap.get?_push_size _ rfl,rfl,rfl⟩,pl.isList.push _⟩,fun i v s1 Q' E' hv hq=>?_,fun h' tk k=>?_⟩)
 ·have hv' : (bs.map Value.bool)[i]? = some v:=by simpa using hv
  rw [List.getElem?_map] at hv'
  cases eb : bs[i]? with
  | none=>rw [eb] at hv'; cases hv'
  | some b =>
   rw [eb] at hv'
   obtain rfl : Value.bool b = v:=Option.some.inj hv'
   have : bs.getD i true = b:=by rw [List.getD_eq_getElem?_getD,eb]; rfl
   have hq' : Q' b s1:=by rw [← this]; exact hq
   exact wpAny_pure hq'
 ·have keep : ∀ b o,s.heap.get? b = some o→h'.get? b = some o:=fun b o e=>k b o (by simpa using Nat.ne_of_lt (Heap.lt_size e)) (Heap.get?_push_of_some _ e)
  refine ⟨.bl (bs.all id),H,I.kept (t':=tk) keep,?_,q⟩
  show Value.bool _ = Value.bool _
  congr 1
  have go : ∀ (bs : List Bool),((List.range bs.length).all fun i=>bs.getD i true) = bs.all id:=by
   intro bs
   induction bs with
   | nil=>rfl
   | cons b bs ih =>
    rw [List.length_cons,List.range_succ_eq_map,List.all_cons,List.all_map,List.all_cons,← ih]
    rfl
  rw [← go bs]
  simp
end
end L2
namespace L2
open PySem PySem.Spec PyProof.Rows
structure Cal (P : Program) (w : World) (K : W.Frag) (mg : Str→Option Value) (base : Heap) (CX : CXT) (k : Nat) (x : Str) (ps : List Str) (sp : Sp) : Prop where
 ex : ∃ f fd,mg x = some (.ref f)∧W.keepIn K (.ref f) = true∧dE K fd ps []∧FnOk P w K mg base CX k f fd ps sp
theorem aQ {X : Cx} {CX : CXT} {k : Nat} {x : Str} {ps : List Str} {sp : Sp} {E : XK} {e : Expr} {es : List Expr} {t : TA} {p pos : Pos} (C : Cal X.prog X.w X.K X.mg X.base CX k x ps sp) (hr : Room k X.A) (hx : dO CX X E) (ha : PA X (e :: es) t) (hg : Gl X x:=by rfl)
  (hdb : (x == ("__debug__" : Str)) = false:=by decide) (he : starEach (e :: es) X.env = (false,eval e X.env) :: starEach es X.env:=by rfl) (hpl : (backTo pos (starEach es X.env)).any (·.1) = false:=by rfl) :
  PE X (.Call (.Name x p) (e :: es) [] pos) (gA sp [] E t):=by
 obtain ⟨f,fd,a,b,c,d⟩:=C.ex
 exact aCC d hr hg a b c .nil hx ha hdb he hpl
theorem aF {H : Hp} {D : Addr} {o : HO} (h : H D = none) : Same H (upd H D o):=fun b u e=>by rw [aH (aJ e h)]; exact e
def aP (p : Addr) (H H' : Hp) : Prop:=∀ b o,H b = some o→b ≠ p→H' b = some o
theorem aP.refl {p : Addr} {H : Hp} : aP p H H:=fun _ _ h _=>h
theorem aP.trans {p : Addr} {H H1 H2 : Hp} (a : aP p H H1) (b : aP p H1 H2) : aP p H H2:=fun c o h n=>b c o (a c o h n) n
theorem aP.upd {p : Addr} {H : Hp} {o : HO} : aP p H (upd H p o):=fun b u h n=>by rw [aH n]; exact h
theorem aP.of {p : Addr} {H H' : Hp} (s : Same H H') : aP p H H':=fun b o h _=>s b o h
theorem aP.free {p q : Addr} {H H' : Hp} (s : aP p H H') (hp : H' p ≠ none) (h : H' q = none) : H q = none:=by
 cases z : H q with
 | none=>rfl
 | some o =>
  by_cases e : q = p
  ·subst e; exact absurd h hp
  ·rw [s q o z e] at h; cases h
theorem jE {n j : Nat} (h : j < n) : ixN n (j : Int) = some j:=by
 unfold ixN
 rw [if_pos (by omega),if_pos (by omega)]
 simp
theorem aAB {as : List Addr} {t : Addr} {j n : Nat} (h : as.length = n) : (as ++ [t]).getD j 0 = if j = n then t else as.getD j 0:=by
 rw [List.getD_eq_getElem?_getD,List.getD_eq_getElem?_getD]
 by_cases hj : j = n
 ·subst hj; subst h
  rw [if_pos rfl,List.getElem?_append_right (Nat.le_refl _),Nat.sub_self]; rfl
 ·rw [if_neg hj]
  by_cases hlt : j < as.length
  ·rw [List.getElem?_append_left hlt]
  ·rw [List.getElem?_append_right (by omega),List.getElem?_eq_none (by simp; omega),List.getElem?_eq_none (by omega)]
def Holds (H : Hp) (as : List Addr) (n : Nat) (o : Nat→HO) : Prop:=as.length = n∧∀ j,j < n→H (as.getD j 0) = some (o j)
theorem Holds.nil {H : Hp} {o : Nat→HO} : Holds H [] 0 o:=⟨rfl,fun j hj=>absurd hj (by omega)⟩
theorem Holds.snoc {H : Hp} {as : List Addr} {n : Nat} {o : Nat→HO} {t : Addr} (h : Holds H as n o) (ht : H t = some (o n)) : Holds H (as ++ [t]) (n + 1) o:=by
 refine ⟨by rw [List.length_append,h.1]; rfl,fun j hj=>?_⟩
 rw [aAB h.1]
 by_cases e : j = n
 ·rw [if_pos e,e]; exact ht
 ·rw [if_neg e]; exact h.2 j (by omega)
theorem Holds.mono {H H' : Hp} {as : List Addr} {n : Nat} {o : Nat→HO} (h : Holds H as n o) (e : ∀ j,j < n→H (as.getD j 0) = some (o j)→H' (as.getD j 0) = some (o j)) : Holds H' as n o:=⟨h.1,fun j hj=>e j hj (h.2 j hj)⟩
end L2
namespace PyProof.Rows
open PySem
def cY : Bool→Keyed→Array Keyed→Nat→Nat→Nat→StateT SortSt Sem (Option Nat):=sortPriv% PySem.Builtin.gallop
def nC : Array Keyed→Array Keyed→StateT SortSt Sem (Array Keyed):=sortPriv% PySem.Builtin.mergeLo
def nE : Array Keyed→Array Keyed→StateT SortSt Sem (Array Keyed):=sortPriv% PySem.Builtin.mergeHi
def cR : Nat→StateT SortSt Sem Unit:=sortPriv% PySem.Builtin.setMinGallop
def Cmp (prog : Program) (w : World) (A : Around) (s : Shared) (κ : SortKind) (a₀ : Array Keyed) (key : Keyed→Int) : Prop :=
 ∀ x y,x∈a₀.toList→y∈a₀.toList→∀ (Q : Bool→Shared→Prop) (E : Value→Shared→Prop),Q (decide (key x < key y)) s→wpAny (model prog w) A (keyLt' κ x.1 y.1) Q E s
structure SQ (κ : SortKind) (a₀ : Array Keyed) (pd : Array (Nat × Nat × Nat)) (st : SortSt) : Prop where
 perm : (arrOf st).Perm a₀
 kind : kindOf st = κ
 failed : failedOf st = none
 pend : pendingOf st = pd
def kk (key : Keyed→Int) (a : Array Keyed) (i : Nat) : Int:=(a[i]?.map key).getD 0
def So (key : Keyed→Int) (a : Array Keyed) (lo hi : Nat) : Prop:=∀ i j,lo ≤ i→i ≤ j→j < hi→kk key a i ≤ kk key a j
def Out (a b : Array Keyed) (lo hi : Nat) : Prop:=∀ k,k < lo∨hi ≤ k→b[k]? = a[k]?
theorem Out.refl {a : Array Keyed} {lo hi : Nat} : Out a a lo hi:=fun _ _=>rfl
theorem Out.trans {a b c : Array Keyed} {lo hi : Nat} (x : Out a b lo hi) (y : Out b c lo hi) : Out a c lo hi:=fun k h=>(y k h).trans (x k h)
theorem Out.wide {a b : Array Keyed} {lo hi lo' hi' : Nat} (x : Out a b lo hi) (h1 : lo' ≤ lo) (h2 : hi ≤ hi') : Out a b lo' hi':=fun k h=>x k (by omega)
theorem cG {key : Keyed→Int} {a : Array Keyed} {i : Nat} (h : i < a.size) : kk key a i = key a[i]:=by unfold kk; rw [getElem?_pos a i h]; rfl
theorem eD {key : Keyed→Int} {a b : Array Keyed} {i j : Nat} (h : a[i]? = b[j]?) : kk key a i = kk key b j:=by unfold kk; rw [h]
section
variable {prog : Program} {w : World} {A : Around} {E : Value→Shared→Prop} {s : Shared} {κ : SortKind} {a₀ : Array Keyed} {pd : Array (Nat × Nat × Nat)} {key : Keyed→Int}
theorem SQ.size {st : SortSt} (h : SQ κ a₀ pd st) : (arrOf st).size = a₀.size:=h.perm.size_eq
theorem SQ.setArr {st : SortSt} (h : SQ κ a₀ pd st) {xs : Array Keyed} (hp : xs.Perm (arrOf st)) : SQ κ a₀ pd (setArr st xs):=⟨hp.trans h.perm,h.kind,h.failed,h.pend⟩
theorem SQ.at {st : SortSt} (h : SQ κ a₀ pd st) {i : Nat} (hi : i < a₀.size) : ∃ p,(arrOf st)[i]? = some p∧p∈a₀.toList:=by
 have hi' : i < (arrOf st).size:=by rw [h.size]; exact hi
 exact ⟨(arrOf st)[i],getElem?_pos _ i hi',(Array.perm_iff_toList_perm.mp h.perm).mem_iff.mp (by simp)⟩
theorem lB {st : SortSt} {x y : Keyed} {Q : Option Bool→SortSt→Prop} (hC : Cmp prog w A s κ a₀ key) (hk : kindOf st = κ) (hx : x∈a₀.toList) (hy : y∈a₀.toList) (h : Q (some (decide (key x < key y))) st) : wpS (model prog w) A E s (lt' x y) Q st:=by
 rw [lt'_eq]
 refine wpS_bind (wpS_get ?_)
 rw [hk]
 refine wpS_bind (wpS_lift (wpAny_attempt (hC x y hx hy _ _ ⟨rfl,?_⟩)))
 exact wpS_pure h
theorem bJ {st : SortSt} {arr : Array Keyed} {i : Nat} {p : Keyed} {Q : Keyed→SortSt→Prop} (hi : arr[i]? = some p) (h : Q p st) : wpS (model prog w) A E s (elem' arr i) Q st:=by
 rw [elem'_eq,hi]
 exact wpS_pure h
theorem jF {st : SortSt} {i j : Nat} {Q : Option Bool→SortSt→Prop} (hC : Cmp prog w A s κ a₀ key) (hB : SQ κ a₀ pd st) (hi : i < a₀.size) (hj : j < a₀.size) (h : ∀ b,b = decide (kk key (arrOf st) i < kk key (arrOf st) j)→Q (some b) st) : wpS (model prog w) A E s (ltAt' i j) Q st:=by
 obtain ⟨p,e1,m1⟩:=hB.at hi
 obtain ⟨q,e2,m2⟩:=hB.at hj
 rw [ltAt'_eq]
 refine wpS_bind (wpS_get ?_)
 refine wpS_bind (bJ e1 (wpS_bind (bJ e2 (lB hC hB.kind m1 m2 (h _ ?_)))))
 unfold kk
 rw [e1,e2]; rfl
theorem lW {st : SortSt} {i j : Nat} {Q : Unit→SortSt→Prop} (hB : SQ κ a₀ pd st) (hj : j ≤ a₀.size) (h : ∀ st',SQ κ a₀ pd st'→(∀ k,(arrOf st')[k]? = if i ≤ k∧k < j then (arrOf st)[i + j - 1 - k]? else (arrOf st)[k]?)→Q () st') : wpS (model prog w) A E s (reverseSlice' i j) Q st:=by
 rw [reverseSlice'_eq]
 exact wpS_modify (h _ (hB.setArr (mirror_perm _ _ _ _)) (getElem?_mirror_all (by rw [hB.size]; exact hj)))
theorem aBJ {st : SortSt} {i j : Nat} {Q : Unit→SortSt→Prop} (hB : SQ κ a₀ pd st) (hi : i < a₀.size) (hj : j ≤ i) (h : ∀ st',SQ κ a₀ pd st'→(∀ k,(arrOf st')[k]? = if k = j then (arrOf st)[i]? else if j < k∧k ≤ i then (arrOf st)[k - 1]? else (arrOf st)[k]?)→Q () st') : wpS (model prog w) A E s (moveDown' i j) Q st:=by
 rw [moveDown'_eq]
 refine wpS_modify (h _ (hB.setArr (bubble_perm _ _ _)) fun k=>?_)
 have:=getElem?_bubble (xs:=arrOf st) (src:=i) (by rw [hB.size]; exact hi) (i - j) (by omega) k
 rw [show i - (i - j) = j by omega] at this
 exact this
theorem aCV {st : SortSt} {lo n ok : Nat} {Q : Bool → SortSt → Prop} (hC : Cmp prog w A s κ a₀ key) (hn : lo + n ≤ a₀.size) (hok : ok ≤ n) (hB : SQ κ a₀ pd st) (hs : So key (arrOf st) lo (lo + ok)) (h : ∀ st', SQ κ a₀ pd st' → So key (arrOf st') lo (lo + n) → Out (arrOf st) (arrOf st') lo (lo + n) → Q true st') : wpS (model prog w) A E s (binarySort' lo n ok) Q st := by
  rw [binarySort'_eq]
  refine wpS_bind (wpS_mono (wpS_forRange (I := fun k c st' => c = (none, ()) ∧ SQ κ a₀ pd st' ∧ So key (arrOf st') lo (lo + k) ∧ Out (arrOf st) (arrOf st') lo (lo + n)) (Q := fun c st' => c = (none, ()) ∧ SQ κ a₀ pd st' ∧ So key (arrOf st') lo (lo + n) ∧ Out (arrOf st) (arrOf st') lo (lo + n)) ?_ (fun c st' hh => ⟨hh.1, hh.2.1, fun i j h1 h2 h3 => hh.2.2.1 i j h1 h2 (by omega), hh.2.2.2⟩) ⟨rfl, hB, fun i j h1 h2 h3 => ?_, Out.refl⟩) ?_)
  · rintro k c st' hk1 hk2 ⟨rfl, hB', so, ou⟩
    dsimp only
    refine wpS_bind (wpS_mono (wpS_forRange (I := fun x c st'' => (∃ l r, c = (none, l, r) ∧ l ≤ r ∧ r ≤ k ∧ r ≤ l + (k - x) ∧ (∀ i, i < l → kk key (arrOf st') (lo + i) ≤ kk key (arrOf st') (lo + k)) ∧ (∀ i, r ≤ i → i < k → kk key (arrOf st') (lo + k) ≤ kk key (arrOf st') (lo + i))) ∧ st'' = st') (Q := fun c st'' => (∃ l r, c = (none, l, r) ∧ l ≤ k ∧ (∀ i, i < l → kk key (arrOf st') (lo + i) ≤ kk key (arrOf st') (lo + k)) ∧ (∀ i, l ≤ i → i < k → kk key (arrOf st') (lo + k) ≤ kk key (arrOf st') (lo + i))) ∧ st'' = st') ?_ ?_ ⟨⟨_, _, rfl, Nat.zero_le _, Nat.le_refl _, by omega, fun i h => by omega, fun i h h' => by omega⟩, rfl⟩) ?_)
    · rintro x c st2 _ hx ⟨⟨l, r, rfl, hlr', hr, hrl, f1, f2⟩, rfl⟩
      dsimp only
      by_cases hlr : l ≥ r
      · rw [if_pos hlr]
        exact wpS_pure ⟨⟨_, _, rfl, by omega, f1, fun i hi hi' => f2 i (by omega) hi'⟩, rfl⟩
      · rw [if_neg hlr]
        refine wpS_bind (jF hC hB' (by omega) (by omega) fun b eb => ?_)
        cases b
        · have e := of_decide_eq_false eb.symm
          refine wpS_pure ⟨⟨_, _, rfl, by omega, hr, by omega, fun i hi => ?_, f2⟩, rfl⟩
          have := so (lo + i) (lo + (l + r) / 2) (by omega) (by omega) (by omega)
          omega
        · have e := of_decide_eq_true eb.symm
          refine wpS_pure ⟨⟨_, _, rfl, by omega, by omega, by omega, f1, fun i hi hi' => ?_⟩, rfl⟩
          have := so (lo + (l + r) / 2) (lo + i) (by omega) (by omega) (by omega)
          omega
    · rintro c st2 ⟨⟨l, r, rfl, hlr', hr, hrl, f1, f2⟩, rfl⟩
      exact ⟨⟨_, _, rfl, by omega, f1, fun i hi hi' => f2 i (by omega) hi'⟩, rfl⟩
    · rintro c st2 ⟨⟨l, r, rfl, hl, f1, f2⟩, rfl⟩
      dsimp only
      refine wpS_bind (aBJ hB' (by omega) (by omega) fun st3 hB3 hg => wpS_pure ⟨rfl, hB3, fun i j h1 h2 h3 => ?_, fun q hq => ?_⟩)
      · have gi := hg i
        have gj := hg j
        have ei : kk key (arrOf st3) i = if i = lo + l then kk key (arrOf st2) (lo + k) else if lo + l < i ∧ i ≤ lo + k then kk key (arrOf st2) (i - 1) else kk key (arrOf st2) i := by
          unfold kk; rw [gi]; split
          · rfl
          · split <;> rfl
        have ej : kk key (arrOf st3) j = if j = lo + l then kk key (arrOf st2) (lo + k) else if lo + l < j ∧ j ≤ lo + k then kk key (arrOf st2) (j - 1) else kk key (arrOf st2) j := by
          unfold kk; rw [gj]; split
          · rfl
          · split <;> rfl
        rw [ei, ej]
        by_cases c1 : i = lo + l
        · rw [if_pos c1]
          by_cases c2 : j = lo + l
          · rw [if_pos c2]; omega
          · rw [if_neg c2, if_pos (by omega)]
            have := f2 (j - 1 - lo) (by omega) (by omega)
            rw [show lo + (j - 1 - lo) = j - 1 by omega] at this
            exact this
        · rw [if_neg c1]
          by_cases c3 : lo + l < i ∧ i ≤ lo + k
          · rw [if_pos c3, if_neg (by omega), if_pos (by omega)]
            exact so _ _ (by omega) (by omega) (by omega)
          · rw [if_neg c3]
            by_cases c2 : j = lo + l
            · rw [if_pos c2]
              have := f1 (i - lo) (by omega)
              rw [show lo + (i - lo) = i by omega] at this
              exact this
            · rw [if_neg c2]
              by_cases c4 : lo + l < j ∧ j ≤ lo + k
              · rw [if_pos c4]; exact so _ _ (by omega) (by omega) (by omega)
              · rw [if_neg c4]; exact so _ _ (by omega) (by omega) (by omega)
      · rw [hg q, if_neg (by omega), if_neg (by omega)]
        exact ou q hq
  · by_cases ho : ok = 0
    · have : i = j := by subst ho; have : max 0 1 = 1 := rfl; omega
      rw [this]; exact Int.le_refl _
    · exact hs i j h1 h2 (by have : max ok 1 = ok := by omega
                             omega)
  · rintro c st' ⟨rfl, hB', so, ou⟩
    exact wpS_pure (h st' hB' so ou)
end
end PyProof.Rows
namespace PyProof.Rows
open PySem
def finC (lo nrem n : Nat) : StateT SortSt Sem (Option Nat):=do
 reverseSlice' lo (lo + n)
 let mut n:=n
 for _ in [n:nrem] do
  let some smaller ← ltAt' (lo + n) (lo + n - 1) | return none
  if smaller then break
  n:=n + 1
 return some n
def desC (lo nrem n : Nat) : StateT SortSt Sem (Option Nat):=do
 rule "list.sort.descending-run"
 let mut n:=n + 1
 let mut neq:=0
 for _ in [n:nrem] do
  let some smaller ← ltAt' (lo + n) (lo + n - 1) | return none
  if smaller then
   if neq > 0 then reverseSlice' (lo + n - (neq + 1)) (lo + n)
   neq:=0
  else
   let some larger ← ltAt' (lo + n - 1) (lo + n) | return none
   if larger then break
   neq:=neq + 1
  n:=n + 1
 if neq > 0 then reverseSlice' (lo + n - (neq + 1)) (lo + n)
 finC lo nrem n
theorem rL (lo nrem : Nat) : countRun' lo nrem = (do
 let mut n:=1
 for _ in [1:nrem] do
  let some smaller ← ltAt' (lo + n) (lo + n - 1) | return none
  if smaller then break
  n:=n + 1
 if n == nrem then return some n
 if n > 1 then
  let some rose ← ltAt' lo (lo + n - 1) | return none
  if rose then return some n
  reverseSlice' lo (lo + n)
 desC lo nrem n):=rfl
section
variable {prog : Program} {w : World} {A : Around} {E : Value→Shared→Prop} {s : Shared} {κ : SortKind} {a₀ : Array Keyed} {pd : Array (Nat × Nat × Nat)} {key : Keyed→Int} {ar : Array Keyed}
def De (key : Keyed→Int) (a : Array Keyed) (lo hi : Nat) : Prop:=∀ i j,lo ≤ i→i ≤ j→j < hi→kk key a j ≤ kk key a i
theorem tE {a b : Array Keyed} {i j : Nat} (h : ∀ k,b[k]? = if i ≤ k∧k < j then a[i + j - 1 - k]? else a[k]?) (k : Nat) : kk key b k = if i ≤ k∧k < j then kk key a (i + j - 1 - k) else kk key a k:=by
 unfold kk; rw [h k]; split <;> rfl
theorem lC {a b : Array Keyed} {i j : Nat} (h : ∀ k,b[k]? = if i ≤ k∧k < j then a[i + j - 1 - k]? else a[k]?) (e : ∀ k,i ≤ k→k < j→kk key a k = kk key a (j - 1)) (k : Nat) : kk key b k = kk key a k:=by
 rw [tE h]
 split
 ·rename_i c; rw [e _ (by omega) (by omega),e k c.1 c.2]
 ·rfl
theorem lX {a b : Array Keyed} {i j lo hi : Nat} (h : ∀ k,b[k]? = if i ≤ k∧k < j then a[i + j - 1 - k]? else a[k]?) (h1 : lo ≤ i) (h2 : j ≤ hi) : Out a b lo hi:=fun k hk=>by rw [h k,if_neg (by omega)]
theorem wH {st : SortSt} {lo nrem n : Nat} {Q : Option (Option Nat) × Nat→SortSt→Prop} (hC : Cmp prog w A s κ a₀ key) (hn : lo + nrem ≤ a₀.size) (h1 : 1 ≤ n) (h2 : n ≤ nrem) (hB : SQ κ a₀ pd st) (so : So key (arrOf st) lo (lo + n)) (h : ∀ m,n ≤ m→m ≤ nrem→So key (arrOf st) lo (lo + m)→(m = nrem∨kk key (arrOf st) (lo + m) < kk key (arrOf st) (lo + m - 1))→Q (none,m) st) :
  wpS (model prog w) A E s (forIn [n:nrem] ((none : Option (Option Nat)),n) fun _ r=>do
   let some smaller ← ltAt' (lo + r.2) (lo + r.2 - 1) | pure (ForInStep.done (some none,r.2))
   if smaller then pure (ForInStep.done (none,r.2)) else pure (ForInStep.yield (none,r.2 + 1))) Q st:=by
 refine wpS_mono (wpS_forRange (I:=fun i c st'=>st' = st∧c = (none,i)∧So key (arrOf st) lo (lo + i)) (Q:=fun c st'=>st' = st∧∃ m,c = (none,m)∧n ≤ m∧m ≤ nrem∧So key (arrOf st) lo (lo + m)∧(m = nrem∨kk key (arrOf st) (lo + m) < kk key (arrOf st) (lo + m - 1))) ?_ ?_ ⟨rfl,rfl,so⟩) ?_
 ·rintro i c st1 hi1 hi2 ⟨rfl,rfl,so1⟩
  dsimp only
  refine wpS_bind (jF hC hB (by omega) (by omega) fun b eb=>?_)
  cases b
  ·have e:=of_decide_eq_false eb.symm
   refine wpS_pure ⟨rfl,rfl,fun x y hx hxy hy=>?_⟩
   by_cases c1 : y < lo + i
   ·exact so1 x y hx hxy c1
   ·have : y = lo + i:=by omega
    subst this
    by_cases c2 : x = lo + i
    ·rw [c2]; omega
    ·have:=so1 x (lo + i - 1) hx (by omega) (by omega)
     omega
  ·exact wpS_pure ⟨rfl,_,rfl,by omega,by omega,so1,.inr (of_decide_eq_true eb.symm)⟩
 ·rintro c st1 ⟨rfl,rfl,so1⟩
  have : max n nrem = nrem:=by omega
  rw [this] at so1 ⊢
  exact ⟨rfl,_,rfl,by omega,by omega,so1,.inl rfl⟩
 ·rintro c st1 ⟨rfl,m,rfl,m1,m2,so1,e⟩
  exact h m m1 m2 so1 e
theorem wI {st : SortSt} {lo nrem n : Nat} {Q : Option Nat→SortSt→Prop} (hC : Cmp prog w A s κ a₀ key) (hn : lo + nrem ≤ a₀.size) (h1 : 1 ≤ n) (h2 : n ≤ nrem) (hB : SQ κ a₀ pd st) (de : De key (arrOf st) lo (lo + n)) (ou : Out ar (arrOf st) lo (lo + nrem)) (h : ∀ n st',SQ κ a₀ pd st'→1 ≤ n→n ≤ nrem→So key (arrOf st') lo (lo + n)→Out ar (arrOf st') lo (lo + nrem)→Q (some n) st') : wpS (model prog w) A E s (finC lo nrem n) Q st:=by
 unfold finC
 refine wpS_bind (lW hB (by omega) fun st2 hB2 hg=>?_)
 refine wpS_bind (wH hC hn h1 h2 hB2 (fun i j hi hij hj=>?_) fun m m1 m2 so _=>?_)
 ·rw [tE hg,tE hg,if_pos (by omega),if_pos (by omega)]
  exact de _ _ (by omega) (by omega) (by omega)
 ·exact wpS_pure (h m st2 hB2 (by omega) m2 so (ou.trans (lX hg (by omega) (by omega))))
theorem wJ {st : SortSt} {lo nrem n : Nat} {Q : Option Nat→SortSt→Prop} (hC : Cmp prog w A s κ a₀ key) (hn : lo + nrem ≤ a₀.size) (h1 : 1 ≤ n) (h2 : n < nrem) (hB : SQ κ a₀ pd st) (de : De key (arrOf st) lo (lo + (n + 1))) (ou : Out ar (arrOf st) lo (lo + nrem)) (h : ∀ n st',SQ κ a₀ pd st'→1 ≤ n→n ≤ nrem→So key (arrOf st') lo (lo + n)→Out ar (arrOf st') lo (lo + nrem)→Q (some n) st') : wpS (model prog w) A E s (desC lo nrem n) Q st:=by
 unfold desC
 refine wpS_bind (wpS_lift (wpAny_rule ⟨rfl,?_⟩))
 dsimp only
 refine wpS_bind (wpS_mono (wpS_forRange (I:=fun i c st'=>SQ κ a₀ pd st'∧De key (arrOf st') lo (lo + i)∧Out ar (arrOf st') lo (lo + nrem)∧∃ q,c = (none,i,q)∧q + 1 ≤ i∧∀ k,lo + i - (q + 1) ≤ k→k < lo + i→kk key (arrOf st') k = kk key (arrOf st') (lo + i - 1)) (Q:=fun c st'=>SQ κ a₀ pd st'∧Out ar (arrOf st') lo (lo + nrem)∧∃ i q,c = (none,i,q)∧De key (arrOf st') lo (lo + i)∧1 ≤ i∧i ≤ nrem∧q + 1 ≤ i∧∀ k,lo + i - (q + 1) ≤ k→k < lo + i→kk key (arrOf st') k = kk key (arrOf st') (lo + i - 1)) ?_ ?_ ⟨hB,de,ou,_,rfl,by omega,fun k hk1 hk2=>by rw [show k = lo + (n + 1) - 1 by omega]⟩) ?_)
 ·rintro i c st3 hi1 hi2 ⟨hB3,de3,ou3,q,rfl,hq,eq⟩
  dsimp only
  have step : ∀ st',(∀ k,kk key (arrOf st') k = kk key (arrOf st3) k)→kk key (arrOf st3) (lo + i) ≤ kk key (arrOf st3) (lo + i - 1)→De key (arrOf st') lo (lo + (i + 1)):=by
   intro st' e hlt x y hx hxy hy
   rw [e,e]
   by_cases c1 : y < lo + i
   ·exact de3 x y hx hxy c1
   ·have : y = lo + i:=by omega
    subst this
    by_cases c2 : x = lo + i
    ·rw [c2]; omega
    ·have:=de3 x (lo + i - 1) hx (by omega) (by omega)
     omega
  refine wpS_bind (jF hC hB3 (by omega) (by omega) fun b3 e3=>?_)
  cases b3
  ·have e3':=of_decide_eq_false e3.symm
   dsimp only
   rw [if_neg (by decide)]
   refine wpS_bind (jF hC hB3 (by omega) (by omega) fun b4 e4=>?_)
   cases b4
   ·have e4':=of_decide_eq_false e4.symm
    refine wpS_pure ⟨hB3,step st3 (fun _=>rfl) (by omega),ou3,_,rfl,by omega,fun k hk1 hk2=>?_⟩
    rw [show lo + (i + 1) - 1 = lo + i by omega]
    by_cases c1 : k = lo + i
    ·rw [c1]
    ·have:=eq k (by omega) (by omega)
     omega
   ·exact wpS_pure ⟨hB3,ou3,_,_,rfl,de3,by omega,by omega,hq,eq⟩
  ·have e3':=of_decide_eq_true e3.symm
   dsimp only
   rw [if_pos rfl]
   split
   ·refine wpS_bind (lW hB3 (by omega) fun st4 hB4 hg=>wpS_pure ⟨hB4,step st4 (lC hg eq) (by omega),ou3.trans (lX hg (by omega) (by omega)),_,rfl,by omega,fun k hk1 hk2=>by rw [show k = lo + (i + 1) - 1 by omega]⟩)
   ·exact wpS_pure ⟨hB3,step st3 (fun _=>rfl) (by omega),ou3,_,rfl,by omega,fun k hk1 hk2=>by rw [show k = lo + (i + 1) - 1 by omega]⟩
 ·rintro c st3 ⟨hB3,de3,ou3,q,rfl,hq,eq⟩
  have : max (n + 1) nrem = nrem:=by omega
  rw [this] at de3 hq eq ⊢
  exact ⟨hB3,ou3,_,_,rfl,de3,by omega,by omega,hq,eq⟩
 ·rintro c st3 ⟨hB3,ou3,i,q,rfl,de3,i1,i2,hq,eq⟩
  dsimp only
  split
  ·refine wpS_bind (lW hB3 (by omega) fun st4 hB4 hg=>?_)
   refine wI hC hn i1 i2 hB4 (fun x y hx hxy hy=>?_) (ou3.trans (lX hg (by omega) (by omega))) h
   rw [lC hg eq,lC hg eq]
   exact de3 x y hx hxy hy
  ·exact wI hC hn i1 i2 hB3 de3 ou3 h
theorem aAC {st : SortSt} {lo nrem : Nat} {Q : Option Nat→SortSt→Prop} (hC : Cmp prog w A s κ a₀ key) (hn : lo + nrem ≤ a₀.size) (h1 : 1 ≤ nrem) (hB : SQ κ a₀ pd st) (h : ∀ n st',SQ κ a₀ pd st'→1 ≤ n→n ≤ nrem→So key (arrOf st') lo (lo + n)→Out (arrOf st) (arrOf st') lo (lo + nrem)→Q (some n) st') : wpS (model prog w) A E s (countRun' lo nrem) Q st:=by
 rw [rL]
 refine wpS_bind (wH hC hn (Nat.le_refl 1) h1 hB (fun i j hi hij hj=>by rw [show i = j by omega]; exact Int.le_refl _) fun n n1 n2 so e=>?_)
 dsimp only
 by_cases e1 : (n == nrem) = true
 ·rw [if_pos e1]; exact wpS_pure (h n st hB n1 n2 so Out.refl)
 rw [if_neg e1]
 have g1 : ¬ (n = nrem):=by simpa using e1
 have hlt : kk key (arrOf st) (lo + n) < kk key (arrOf st) (lo + n - 1):=e.resolve_left g1
 by_cases e2 : n > 1
 ·rw [if_pos e2]
  refine wpS_bind (jF hC hB (by omega) (by omega) fun b2 eb=>?_)
  cases b2
  ·have e3:=of_decide_eq_false eb.symm
   dsimp only
   rw [if_neg (by decide)]
   have eq : ∀ k,lo ≤ k→k < lo + n→kk key (arrOf st) k = kk key (arrOf st) (lo + n - 1):=fun k hk1 hk2=>by
    have a1:=so lo k (by omega) hk1 hk2
    have a2:=so k (lo + n - 1) hk1 (by omega) (by omega)
    omega
   refine wpS_bind (lW hB (by omega) fun st2 hB2 hg=>?_)
   refine wJ hC hn n1 (by omega) hB2 (fun i j hi hij hj=>?_) (lX hg (by omega) (by omega)) h
   rw [lC hg eq,lC hg eq]
   by_cases c1 : j < lo + n
   ·rw [eq j (by omega) c1,eq i hi (by omega)]; exact Int.le_refl _
   ·have : j = lo + n:=by omega
    subst this
    by_cases c2 : i = lo + n
    ·rw [c2]; exact Int.le_refl _
    ·rw [eq i hi (by omega)]; omega
  ·exact wpS_pure (h n st hB n1 n2 so Out.refl)
 ·rw [if_neg e2]
  have : n = 1:=by omega
  subst this
  refine wJ hC hn n1 (by omega) hB (fun i j hi hij hj=>?_) Out.refl h
  by_cases c1 : i = j
  ·rw [c1]; exact Int.le_refl _
  ·have : i = lo:=by omega
   have : j = lo + 1:=by omega
   subst i; subst j
   rw [show lo + 1 - 1 = lo by omega] at hlt
   omega
end
end PyProof.Rows
namespace PyProof.Rows
open PySem
theorem yI (left : Bool) (key : Keyed) (arr : Array Keyed) (base n hint : Nat) : cY left key arr base n hint = (do
 let beyond (i : Nat) : StateT SortSt Sem (Option Bool):=do
  let x ← elem' arr (base + i)
  if left then lt' x key else return (← lt' key x).map (!·)
 let mut lastofs:=0
 let mut ofs:=1
 let mut lo:=0
 let mut hi:=0
 let some right ← beyond hint | return none
 if right then
  let maxofs:=n - hint
  for _ in [0:n] do
   if ofs ≥ maxofs then break
   let some more ← beyond (hint + ofs) | return none
   if !more then break
   lastofs:=ofs
   ofs:=2 * ofs + 1
  lo:=hint + lastofs + 1
  hi:=hint + min ofs maxofs
 else
  let maxofs:=hint + 1
  for _ in [0:n] do
   if ofs ≥ maxofs then break
   let some found ← beyond (hint - ofs) | return none
   if found then break
   lastofs:=ofs
   ofs:=2 * ofs + 1
  lo:=hint + 1 - min ofs maxofs
  hi:=hint - lastofs
 for _ in [0:n] do
  if lo ≥ hi then break
  let m:=lo + (hi - lo) / 2
  let some more ← beyond m | return none
  if more then lo:=m + 1 else hi:=m
 return some hi):=rfl
def thr (left : Bool) (k : Int) : Int:=if left then k else k + 1
section
variable {prog : Program} {w : World} {A : Around} {E : Value→Shared→Prop} {s : Shared} {κ : SortKind} {a₀ : Array Keyed} {pd : Array (Nat × Nat × Nat)} {key : Keyed→Int}
theorem gQ {st : SortSt} {left : Bool} {x : Keyed} {arr : Array Keyed} {j : Nat} {Q : Option Bool→SortSt→Prop} (hC : Cmp prog w A s κ a₀ key) (hk : kindOf st = κ) (hkey : x∈a₀.toList) (hin : ∀ x∈arr.toList,x∈a₀.toList) (hj : j < arr.size) (h : ∀ b,b = decide (kk key arr j < thr left (key x))→Q (some b) st) :
  wpS (model prog w) A E s (do
  let y ← elem' arr j
  if left then lt' y x else return (← lt' x y).map (!·)) Q st:=by
 have hm : arr[j]∈a₀.toList:=hin _ (by simp)
 refine wpS_bind (bJ (getElem?_pos arr j hj) ?_)
 cases left
 ·rw [if_neg (by decide)]
  refine wpS_bind (lB hC hk hkey hm (wpS_pure (h _ ?_)))
  rw [cG hj]
  show (!decide (key x < key arr[j])) = decide (key arr[j] < key x + 1)
  by_cases c : key x < key arr[j]
  ·rw [decide_eq_true c,decide_eq_false (by omega)]; rfl
  ·rw [decide_eq_false c,decide_eq_true (by omega)]; rfl
 ·rw [if_pos rfl]
  refine lB hC hk hm hkey (h _ ?_)
  rw [cG hj]; rfl
theorem tG {st : SortSt} {left : Bool} {x : Keyed} {arr : Array Keyed} {base n l u : Nat} {Q : Option Nat→SortSt→Prop} (hC : Cmp prog w A s κ a₀ key) (hk : kindOf st = κ) (hkey : x∈a₀.toList) (hin : ∀ x∈arr.toList,x∈a₀.toList) (hn : base + n ≤ arr.size) (so : So key arr base (base + n)) (hl : l ≤ u) (hu : u ≤ n)
  (f1 : ∀ i,i < l→kk key arr (base + i) < thr left (key x)) (f2 : ∀ i,u ≤ i→i < n→thr left (key x) ≤ kk key arr (base + i))
  (h : ∀ k,k ≤ n→(∀ i,i < k→kk key arr (base + i) < thr left (key x))→(∀ i,k ≤ i→i < n→thr left (key x) ≤ kk key arr (base + i))→Q (some k) st) : wpS (model prog w) A E s (do
   let mut lo:=l
   let mut hi:=u
   for _ in [0:n] do
    if lo ≥ hi then break
    let m:=lo + (hi - lo) / 2
    let some more ← (do
     let y ← elem' arr (base + m)
     if left then lt' y x else return (← lt' x y).map (!·)) | return none
    if more then lo:=m + 1 else hi:=m
   return some hi) Q st:=by
 refine wpS_bind (wpS_mono (wpS_forRange (I:=fun j c st'=>(∃ l u,c = (none,l,u)∧l ≤ u∧u ≤ n∧u ≤ l + (n - j)∧(∀ i,i < l→kk key arr (base + i) < thr left (key x))∧(∀ i,u ≤ i→i < n→thr left (key x) ≤ kk key arr (base + i)))∧st = st') (Q:=fun c st'=>(∃ l u,c = (none,l,u)∧u ≤ l∧u ≤ n∧(∀ i,i < l→kk key arr (base + i) < thr left (key x))∧(∀ i,u ≤ i→i < n→thr left (key x) ≤ kk key arr (base + i)))∧st = st') ?_ ?_ ⟨⟨_,_,rfl,hl,hu,by omega,f1,f2⟩,rfl⟩) ?_)
 ·rintro j c st' _ hj ⟨⟨l,u,rfl,hlu,hu,hd,f1,f2⟩,rfl⟩
  dsimp only
  by_cases hlr : l ≥ u
  ·rw [if_pos hlr]; exact wpS_pure ⟨⟨_,_,rfl,hlr,hu,f1,f2⟩,rfl⟩
  ·rw [if_neg hlr]
   refine wpS_bind (gQ hC hk hkey hin (by omega) fun more e=>?_)
   cases more
   ·have e':=of_decide_eq_false e.symm
    refine wpS_pure ⟨⟨_,_,rfl,by omega,by omega,by omega,f1,fun i hi hi'=>?_⟩,rfl⟩
    have:=so (base + (l + (u - l) / 2)) (base + i) (by omega) (by omega) (by omega)
    omega
   ·have e':=of_decide_eq_true e.symm
    refine wpS_pure ⟨⟨_,_,rfl,by omega,by omega,by omega,fun i hi=>?_,f2⟩,rfl⟩
    have:=so (base + i) (base + (l + (u - l) / 2)) (by omega) (by omega) (by omega)
    omega
 ·rintro c st' ⟨⟨l,u,rfl,hlu,hu,hd,f1,f2⟩,rfl⟩
  exact ⟨⟨_,_,rfl,by omega,hu,f1,f2⟩,rfl⟩
 ·rintro c st' ⟨⟨l,u,rfl,hlu,hu,f1,f2⟩,rfl⟩
  exact wpS_pure (h u hu (fun i hi=>f1 i (by omega)) f2)
theorem eG {st : SortSt} {left : Bool} {x : Keyed} {arr : Array Keyed} {base n hint : Nat} {Q : Option Nat→SortSt→Prop} (hC : Cmp prog w A s κ a₀ key) (hk : kindOf st = κ) (hkey : x∈a₀.toList) (hin : ∀ x∈arr.toList,x∈a₀.toList) (hn : base + n ≤ arr.size) (hh : hint < n) (so : So key arr base (base + n))
  (h : ∀ k,k ≤ n→(∀ i,i < k→kk key arr (base + i) < thr left (key x))→(∀ i,k ≤ i→i < n→thr left (key x) ≤ kk key arr (base + i))→Q (some k) st) : wpS (model prog w) A E s (cY left x arr base n hint) Q st:=by
 rw [yI]
 refine wpS_bind (gQ hC hk hkey hin (by omega) fun right er=>?_)
 cases right
 ·have er':=of_decide_eq_false er.symm
  dsimp only
  rw [if_neg (by decide)]
  refine wpS_bind (wpS_mono (wpS_forRange (I:=fun j c st'=>(∃ l o,c = (none,l,o)∧l < o∧j < o∧l ≤ hint∧thr left (key x) ≤ kk key arr (base + (hint - l)))∧st = st') (Q:=fun c st'=>(∃ l o,c = (none,l,o)∧l < o∧l ≤ hint∧thr left (key x) ≤ kk key arr (base + (hint - l))∧(hint + 1 ≤ o∨kk key arr (base + (hint - o)) < thr left (key x)))∧st = st') ?_ ?_ ⟨⟨_,_,rfl,by omega,by omega,by omega,by rw [Nat.sub_zero]; omega⟩,rfl⟩) ?_)
  ·rintro j c st' _ _ ⟨⟨l,o,rfl,hlo,hjo,hl,f⟩,rfl⟩
   dsimp only
   by_cases hlr : o ≥ hint + 1
   ·rw [if_pos hlr]; exact wpS_pure ⟨⟨_,_,rfl,hlo,hl,f,.inl hlr⟩,rfl⟩
   ·rw [if_neg hlr]
    refine wpS_bind (gQ hC hk hkey hin (by omega) fun found e=>?_)
    cases found
    ·have e':=of_decide_eq_false e.symm
     exact wpS_pure ⟨⟨_,_,rfl,by omega,by omega,by omega,by omega⟩,rfl⟩
    ·exact wpS_pure ⟨⟨_,_,rfl,hlo,hl,f,.inr (of_decide_eq_true e.symm)⟩,rfl⟩
  ·rintro c st' ⟨⟨l,o,rfl,hlo,hjo,hl,f⟩,rfl⟩
   exact ⟨⟨_,_,rfl,hlo,hl,f,.inl (by omega)⟩,rfl⟩
  ·rintro c st' ⟨⟨l,o,rfl,hlo,hl,f,e⟩,rfl⟩
   dsimp only
   refine tG hC hk hkey hin hn so (by omega) (by omega) (fun i hi=>?_) (fun i hi hi'=>?_) h
   ·rcases e with e | e
    ·omega
    ·by_cases c : hint + 1 ≤ o
     ·omega
     ·have:=so (base + i) (base + (hint - o)) (by omega) (by omega) (by omega)
      omega
   ·have:=so (base + (hint - l)) (base + i) (by omega) (by omega) (by omega)
    omega
 ·have er':=of_decide_eq_true er.symm
  dsimp only
  rw [if_pos rfl]
  refine wpS_bind (wpS_mono (wpS_forRange (I:=fun j c st'=>(∃ l o,c = (none,l,o)∧l < o∧j < o∧l < n - hint∧kk key arr (base + (hint + l)) < thr left (key x))∧st = st') (Q:=fun c st'=>(∃ l o,c = (none,l,o)∧l < o∧l < n - hint∧kk key arr (base + (hint + l)) < thr left (key x)∧(n - hint ≤ o∨thr left (key x) ≤ kk key arr (base + (hint + o))))∧st = st') ?_ ?_ ⟨⟨_,_,rfl,by omega,by omega,by omega,by rw [Nat.add_zero]; exact er'⟩,rfl⟩) ?_)
  ·rintro j c st' _ _ ⟨⟨l,o,rfl,hlo,hjo,hl,f⟩,rfl⟩
   dsimp only
   by_cases hlr : o ≥ n - hint
   ·rw [if_pos hlr]; exact wpS_pure ⟨⟨_,_,rfl,hlo,hl,f,.inl hlr⟩,rfl⟩
   ·rw [if_neg hlr]
    refine wpS_bind (gQ hC hk hkey hin (by omega) fun more e=>?_)
    cases more
    ·have e':=of_decide_eq_false e.symm
     exact wpS_pure ⟨⟨_,_,rfl,hlo,hl,f,.inr (by omega)⟩,rfl⟩
    ·exact wpS_pure ⟨⟨_,_,rfl,by omega,by omega,by omega,of_decide_eq_true e.symm⟩,rfl⟩
  ·rintro c st' ⟨⟨l,o,rfl,hlo,hjo,hl,f⟩,rfl⟩
   exact ⟨⟨_,_,rfl,hlo,hl,f,.inl (by omega)⟩,rfl⟩
  ·rintro c st' ⟨⟨l,o,rfl,hlo,hl,f,e⟩,rfl⟩
   dsimp only
   refine tG hC hk hkey hin hn so (by omega) (by omega) (fun i hi=>?_) (fun i hi hi'=>?_) h
   ·have:=so (base + i) (base + (hint + l)) (by omega) (by omega) (by omega)
    omega
   ·rcases e with e | e
    ·omega
    ·by_cases c : n - hint ≤ o
     ·omega
     ·have:=so (base + (hint + o)) (base + i) (by omega) (by omega) (by omega)
      omega
end
end PyProof.Rows
namespace PyProof.Rows
open PySem
theorem dJ (g : Nat) : cR g = modify fun s=>SortSt.mk' (kindOf s) (arrOf s) (pendingOf s) g (failedOf s):=rfl
structure SM (κ : SortKind) (ar : Array Keyed) (pd : Array (Nat × Nat × Nat)) (st : SortSt) : Prop where
 arr : arrOf st = ar
 kind : kindOf st = κ
 failed : failedOf st = none
 pend : pendingOf st = pd
abbrev GSt:=Option (Array Keyed) × Array Keyed × Nat × Nat × Nat × Nat × Nat
abbrev iD (a b out : Array Keyed) (ia ib : Nat):=out ++ a.extract ia a.size ++ b.extract ib b.size
abbrev oN (a b out : Array Keyed) (ia ib : Nat):=out ++ b.extract ib b.size ++ a.extract ia a.size
def loC (a b out : Array Keyed) (ia ib mg ac bc : Nat) : StateT SortSt Sem (ForInStep GSt):=do
 let x ← elem' a ia
 if ia + 1 + 1 == a.size then pure (.done (some (oN a b (out.push x) (ia + 1) ib),out.push x,ia + 1,ib,mg,ac,bc))
 else if ac < 7 && bc < 7 then pure (.done (none,out.push x,ia + 1,ib,mg,ac,bc)) else pure (.yield (none,out.push x,ia + 1,ib,mg,ac,bc))
def loB (a b out : Array Keyed) (ia ib mg ac bc : Nat) : StateT SortSt Sem (ForInStep GSt):=do
 let x ← elem' b ib
 if ib + 1 == b.size then pure (.done (some (iD a b (out.push x) ia (ib + 1)),out.push x,ia,ib + 1,mg,ac,bc))
 else do
  let some k ← cY true (← elem' a ia) b (ib + 1) (b.size - (ib + 1)) 0 | pure (.done (some (iD a b (out.push x) ia (ib + 1)),out.push x,ia,ib + 1,mg,ac,bc))
  if k > 0 then
   if ib + 1 + k == b.size then pure (.done (some (iD a b (out.push x ++ b.extract (ib + 1) (ib + 1 + k)) ia (ib + 1 + k)),out.push x ++ b.extract (ib + 1) (ib + 1 + k),ia,ib + 1 + k,mg,ac,k))
   else loC a b (out.push x ++ b.extract (ib + 1) (ib + 1 + k)) ia (ib + 1 + k) mg ac k
  else loC a b (out.push x) ia (ib + 1) mg ac k
def loA (a b out : Array Keyed) (ia ib mg ac bc : Nat) : StateT SortSt Sem (ForInStep GSt):=do
 cR mg
 let some k ← cY false (← elem' b ib) a ia (a.size - ia) 0 | pure (.done (some (iD a b out ia ib),out,ia,ib,mg,ac,bc))
 if k > 0 then
  if ia + k + 1 == a.size then pure (.done (some (oN a b (out ++ a.extract ia (ia + k)) (ia + k) ib),out ++ a.extract ia (ia + k),ia + k,ib,mg,k,bc))
  else if ia + k == a.size then pure (.done (some (iD a b (out ++ a.extract ia (ia + k)) (ia + k) ib),out ++ a.extract ia (ia + k),ia + k,ib,mg,k,bc))
  else loB a b (out ++ a.extract ia (ia + k)) (ia + k) ib mg k bc
 else loB a b out ia ib mg k bc
theorem vI (a b : Array Keyed) : nC a b = (do
 rule "list.sort.merge-lo"
 let total:=a.size + b.size
 let done (out : Array Keyed) (ia ib : Nat):=out ++ a.extract ia a.size ++ b.extract ib b.size
 let lastOfA (out : Array Keyed) (ia ib : Nat):=out ++ b.extract ib b.size ++ a.extract ia a.size
 let mut out : Array Keyed:=#[← elem' b 0]
 let mut ia:=0
 let mut ib:=1
 if ib == b.size then return done out ia ib
 if ia + 1 == a.size then return lastOfA out ia ib
 let mut minGallop:=gallopOf (← get)
 for _ in [0:total] do
  let mut acount:=0
  let mut bcount:=0
  for _ in [0:total] do
   let some bWins ← lt' (← elem' b ib) (← elem' a ia) | return done out ia ib
   if bWins then
    out:=out.push (← elem' b ib); ib:=ib + 1; bcount:=bcount + 1; acount:=0
    if ib == b.size then return done out ia ib
    if bcount ≥ minGallop then break
   else
    out:=out.push (← elem' a ia); ia:=ia + 1; acount:=acount + 1; bcount:=0
    if ia + 1 == a.size then return lastOfA out ia ib
    if acount ≥ minGallop then break
  rule "list.sort.gallop"
  minGallop:=minGallop + 1
  for _ in [0:total] do
   if minGallop > 1 then minGallop:=minGallop - 1
   cR minGallop
   let some k ← cY false (← elem' b ib) a ia (a.size - ia) 0 | return done out ia ib
   acount:=k
   if k > 0 then
    out:=out ++ a.extract ia (ia + k); ia:=ia + k
    if ia + 1 == a.size then return lastOfA out ia ib
    if ia == a.size then return done out ia ib
   out:=out.push (← elem' b ib); ib:=ib + 1
   if ib == b.size then return done out ia ib
   let some k ← cY true (← elem' a ia) b ib (b.size - ib) 0 | return done out ia ib
   bcount:=k
   if k > 0 then
    out:=out ++ b.extract ib (ib + k); ib:=ib + k
    if ib == b.size then return done out ia ib
   out:=out.push (← elem' a ia); ia:=ia + 1
   if ia + 1 == a.size then return lastOfA out ia ib
   if acount < 7 && bcount < 7 then break
  minGallop:=minGallop + 1
  cR minGallop
 unsupported "internal:list.sort.merge-bound"):=rfl
def PI (a b out : Array Keyed) (ia ib : Nat) : Prop:=out.toList.Perm (a.toList.take ia ++ b.toList.take ib)
theorem tI {l : List Keyed} {i : Nat} (h : i < l.length) : l.take (i + 1) = l.take i ++ [l[i]]:=by rw [List.take_add_one,List.getElem?_eq_getElem h]; rfl
theorem PI.pushA {a b out : Array Keyed} {ia ib : Nat} (h : PI a b out ia ib) (hi : ia < a.size) : PI a b (out.push a[ia]) (ia + 1) ib:=by
 unfold PI at h ⊢
 rw [Array.toList_push,tI (by simpa using hi),List.append_assoc]
 refine (h.append_right _).trans ?_
 rw [List.append_assoc]
 refine List.Perm.append_left _ ?_
 have : a.toList[ia]'(by simpa using hi) = a[ia]:=by simp
 rw [this]
 exact List.perm_append_comm
theorem dL {a : Array Keyed} {i j : Nat} : (a.extract i j).toList = (a.toList.drop i).take (j - i):=by
 rw [Array.toList_extract,List.extract_eq_take_drop]
theorem aBK {a : Array Keyed} {i k : Nat} (h : i + k < a.size) : a.extract i (i + (k + 1)) = (a.extract i (i + k)).push a[i + k]:=by
 apply Array.toList_inj.mp
 rw [Array.toList_push,dL,dL,Nat.add_sub_cancel_left,Nat.add_sub_cancel_left,tI (by simp; omega)]
 congr 2
 simp
structure MI (key : Keyed→Int) (a b out : Array Keyed) (ia ib : Nat) : Prop where
 perm : PI a b out ia ib
 so : out.toList.Pairwise fun x y=>key x ≤ key y
 la : ∀ x∈out.toList,ia < a.size→key x ≤ kk key a ia
 lb : ∀ x∈out.toList,ib < b.size→key x ≤ kk key b ib
def Fi (key : Keyed→Int) (a b r : Array Keyed) : Prop:=r.Perm (a ++ b)∧r.toList.Pairwise fun x y=>key x ≤ key y
section
variable {key : Keyed→Int} {a b out : Array Keyed} {ia ib : Nat}
theorem MI.swap (h : MI key a b out ia ib) : MI key b a out ib ia:=⟨h.perm.trans List.perm_append_comm,h.so,h.lb,h.la⟩
theorem MI.pushA (h : MI key a b out ia ib) (hi : ia < a.size) (sa : So key a 0 a.size) (c : ib < b.size→kk key a ia ≤ kk key b ib) : MI key a b (out.push a[ia]) (ia + 1) ib:=by
 refine ⟨h.perm.pushA hi,?_,fun x hx hl=>?_,fun x hx hl=>?_⟩
 ·rw [Array.toList_push]
  refine List.pairwise_append.mpr ⟨h.so,List.pairwise_singleton _ _,fun x hx y hy=>?_⟩
  rw [List.mem_singleton.mp hy,← cG (key:=key) hi]
  exact h.la x hx hi
 ·rw [Array.toList_push] at hx
  have:=sa ia (ia + 1) (by omega) (by omega) hl
  rcases List.mem_append.mp hx with z | z
  ·have:=h.la x z hi; omega
  ·rw [List.mem_singleton.mp z,← cG (key:=key) hi]; exact this
 ·rw [Array.toList_push] at hx
  rcases List.mem_append.mp hx with z | z
  ·exact h.lb x z hl
  ·rw [List.mem_singleton.mp z,← cG (key:=key) hi]; exact c hl
theorem MI.appA (h : MI key a b out ia ib) (sa : So key a 0 a.size) : ∀ (k : Nat),ia + k ≤ a.size→(ib < b.size→∀ i,i < k→kk key a (ia + i) ≤ kk key b ib)→MI key a b (out ++ a.extract ia (ia + k)) (ia + k) ib
 | 0,_,_=>by
  have e : a.extract ia (ia + 0) = #[]:=by simp; omega
  rw [e,Array.append_empty]; exact h
 | k + 1,hk,c=>by
  have:=(MI.appA h sa k (by omega) fun hb i hi=>c hb i (by omega)).pushA (by omega) sa fun hb=>c hb k (by omega)
  rw [aBK (by omega),← Array.push_append]
  exact this
theorem MI.pushB (h : MI key a b out ia ib) (hi : ib < b.size) (sb : So key b 0 b.size) (c : ia < a.size→kk key b ib ≤ kk key a ia) : MI key a b (out.push b[ib]) ia (ib + 1):=(h.swap.pushA hi sb c).swap
theorem MI.appB (h : MI key a b out ia ib) (sb : So key b 0 b.size) (k : Nat) (hk : ib + k ≤ b.size) (c : ia < a.size→∀ i,i < k→kk key b (ib + i) ≤ kk key a ia) : MI key a b (out ++ b.extract ib (ib + k)) ia (ib + k):=(h.swap.appA sb k hk c).swap
theorem MI.fin (h : MI key a b out a.size b.size) : Fi key a b out:=by
 refine ⟨?_,h.so⟩
 have:=h.perm
 unfold PI at this
 rw [List.take_of_length_le (by simp),List.take_of_length_le (by simp)] at this
 rw [Array.perm_iff_toList_perm,Array.toList_append]
 exact this
theorem MI.done (h : MI key a b out ia ib) (sa : So key a 0 a.size) (sb : So key b 0 b.size) (ha : ia ≤ a.size) (hb : ib ≤ b.size) (c : ib < b.size→∀ i,i < a.size - ia→kk key a (ia + i) ≤ kk key b ib) : Fi key a b (iD a b out ia ib):=by
 have h1:=h.appA sa (a.size - ia) (by omega) c
 rw [show ia + (a.size - ia) = a.size by omega] at h1
 have h2:=h1.appB sb (b.size - ib) (by omega) fun z=>by omega
 rw [show ib + (b.size - ib) = b.size by omega] at h2
 exact h2.fin
theorem MI.last (h : MI key a b out ia ib) (sa : So key a 0 a.size) (sb : So key b 0 b.size) (ha : ia ≤ a.size) (hb : ib ≤ b.size) (c : ia < a.size→∀ i,i < b.size - ib→kk key b (ib + i) ≤ kk key a ia) : Fi key a b (oN a b out ia ib):=by
 have:=h.swap.done sb sa hb ha c
 refine ⟨this.1.trans ?_,this.2⟩
 rw [Array.perm_iff_toList_perm,Array.toList_append,Array.toList_append]
 exact List.perm_append_comm
end
section
variable {prog : Program} {w : World} {A : Around} {E : Value→Shared→Prop} {s : Shared} {κ : SortKind} {a₀ : Array Keyed} {pd : Array (Nat × Nat × Nat)} {ar : Array Keyed} {key : Keyed→Int}
structure Two (key : Keyed→Int) (a₀ a b : Array Keyed) : Prop where
 ha : ∀ x∈a.toList,x∈a₀.toList
 hb : ∀ x∈b.toList,x∈a₀.toList
 a1 : 1 ≤ a.size
 b1 : 1 ≤ b.size
 sa : So key a 0 a.size
 sb : So key b 0 b.size
 c0 : kk key b 0 ≤ kk key a 0
 c1 : ∀ i,i < b.size→kk key b i ≤ kk key a (a.size - 1)
theorem Two.last {a b : Array Keyed} (T : Two key a₀ a b) {out : Array Keyed} {ia ib : Nat} (h : MI key a b out ia ib) (ha : ia + 1 = a.size) (hb : ib ≤ b.size) : Fi key a b (oN a b out ia ib) :=
 h.last T.sa T.sb (by omega) hb fun _ i hi=>by
  have:=T.c1 (ib + i) (by omega)
  rw [show a.size - 1 = ia by omega] at this
  exact this
theorem Two.done {a b : Array Keyed} (T : Two key a₀ a b) {out : Array Keyed} {ia ib : Nat} (h : MI key a b out ia ib) (ha : ia ≤ a.size) (hb : ib = b.size) : Fi key a b (iD a b out ia ib) :=
 h.done T.sa T.sb ha (by omega) fun z=>by omega
def GP (κ : SortKind) (ar : Array Keyed) (pd : Array (Nat × Nat × Nat)) (key : Keyed→Int) (a b : Array Keyed) (n : Nat) (r : ForInStep GSt) (st : SortSt) : Prop:=SM κ ar pd st ∧
 ((∃ x c,r = .done (some x,c)∧Fi key a b x)∨∃ out ia ib mg ac bc,(r = .done (none,out,ia,ib,mg,ac,bc)∨r = .yield (none,out,ia,ib,mg,ac,bc))∧MI key a b out ia ib∧ia + 1 < a.size∧ib < b.size∧n ≤ ia + ib)
theorem wK {st : SortSt} {a b out : Array Keyed} {ia ib mg ac bc n : Nat} (T : Two key a₀ a b) (hB : SM κ ar pd st) (h : MI key a b out ia ib) (la : ia + 1 < a.size) (lb : ib < b.size) (li : n ≤ ia + ib) (c : kk key a ia ≤ kk key b ib) :
  wpS (model prog w) A E s (loC a b out ia ib mg ac bc) (GP κ ar pd key a b n) st:=by
 unfold loC
 refine wpS_bind (bJ (getElem?_pos a ia (by omega)) ?_)
 have p:=h.pushA (show ia < a.size by omega) T.sa fun _=>c
 by_cases f : (ia + 1 + 1 == a.size) = true
 ·rw [if_pos f]; exact wpS_pure ⟨hB,.inl ⟨_,_,rfl,T.last p (by simpa using f) (by omega)⟩⟩
 rw [if_neg f]
 have g : ¬ (ia + 1 + 1 = a.size):=by simpa using f
 split
 ·exact wpS_pure ⟨hB,.inr ⟨_,_,_,_,_,_,.inl rfl,p,by omega,by omega,by omega⟩⟩
 ·exact wpS_pure ⟨hB,.inr ⟨_,_,_,_,_,_,.inr rfl,p,by omega,by omega,by omega⟩⟩
theorem wL {st : SortSt} {a b out : Array Keyed} {ia ib mg ac bc n : Nat} (hC : Cmp prog w A s κ a₀ key) (T : Two key a₀ a b) (hB : SM κ ar pd st) (h : MI key a b out ia ib) (la : ia + 1 < a.size) (lb : ib < b.size) (li : n ≤ ia + ib) (c : kk key b ib ≤ kk key a ia) :
  wpS (model prog w) A E s (loB a b out ia ib mg ac bc) (GP κ ar pd key a b n) st:=by
 unfold loB
 refine wpS_bind (bJ (getElem?_pos b ib (by omega)) ?_)
 have p:=h.pushB lb T.sb fun _=>c
 by_cases f : (ib + 1 == b.size) = true
 ·rw [if_pos f]; exact wpS_pure ⟨hB,.inl ⟨_,_,rfl,T.done p (by omega) (by simpa using f)⟩⟩
 rw [if_neg f]
 have g : ¬ (ib + 1 = b.size):=by simpa using f
 refine wpS_bind (bJ (getElem?_pos a ia (by omega)) ?_)
 refine wpS_bind (eG hC hB.kind (T.ha _ (by simp)) T.hb (by omega) (by omega) (fun i j h1 h2 h3=>T.sb i j (by omega) h2 (by omega)) fun k hk q1 q2=>?_)
 rw [← cG (key:=key) (a:=a) (i:=ia) (by omega)] at q1 q2
 simp only [thr,if_true] at q1 q2
 dsimp only
 by_cases kp : k > 0
 ·rw [if_pos kp]
  have p2:=p.appB T.sb k (by omega) fun _ i hi=>by have:=q1 i hi; omega
  by_cases f2 : (ib + 1 + k == b.size) = true
  ·rw [if_pos f2]; exact wpS_pure ⟨hB,.inl ⟨_,_,rfl,T.done p2 (by omega) (by simpa using f2)⟩⟩
  rw [if_neg f2]
  have g2 : ¬ (ib + 1 + k = b.size):=by simpa using f2
  exact wK T hB p2 la (by omega) (by omega) (q2 k (by omega) (by omega))
 ·rw [if_neg kp]
  have e : k = 0:=by omega
  subst e
  exact wK T hB p la (by omega) (by omega) (q2 0 (by omega) (by omega))
theorem aCW {st : SortSt} {a b out : Array Keyed} {ia ib mg ac bc n : Nat} (hC : Cmp prog w A s κ a₀ key) (T : Two key a₀ a b) (hB : SM κ ar pd st) (h : MI key a b out ia ib) (la : ia + 1 < a.size) (lb : ib < b.size) (li : n ≤ ia + ib) :
  wpS (model prog w) A E s (loA a b out ia ib mg ac bc) (GP κ ar pd key a b n) st:=by
 unfold loA
 rw [dJ]
 refine wpS_bind (wpS_modify ?_)
 have hB2 : SM κ ar pd (SortSt.mk' (kindOf st) (arrOf st) (pendingOf st) mg (failedOf st)):=⟨hB.arr,hB.kind,hB.failed,hB.pend⟩
 refine wpS_bind (bJ (getElem?_pos b ib (by omega)) ?_)
 refine wpS_bind (eG hC hB2.kind (T.hb _ (by simp)) T.ha (by omega) (by omega) (fun i j h1 h2 h3=>T.sa i j (by omega) h2 (by omega)) fun k hk q1 q2=>?_)
 rw [← cG (key:=key) (a:=b) (i:=ib) (by omega)] at q1 q2
 simp only [thr,Bool.false_eq_true,if_false] at q1 q2
 dsimp only
 by_cases kp : k > 0
 ·rw [if_pos kp]
  have p2:=h.appA T.sa k (by omega) fun _ i hi=>by have:=q1 i hi; omega
  by_cases f4 : (ia + k + 1 == a.size) = true
  ·rw [if_pos f4]; exact wpS_pure ⟨hB2,.inl ⟨_,_,rfl,T.last p2 (by simpa using f4) (by omega)⟩⟩
  rw [if_neg f4]
  have g4 : ¬ (ia + k + 1 = a.size):=by simpa using f4
  by_cases f5 : (ia + k == a.size) = true
  ·rw [if_pos f5]
   have g5 : ia + k = a.size:=by simpa using f5
   exact wpS_pure ⟨hB2,.inl ⟨_,_,rfl,p2.done T.sa T.sb (by omega) (by omega) fun _ i hi=>by omega⟩⟩
  rw [if_neg f5]
  have g5 : ¬ (ia + k = a.size):=by simpa using f5
  exact wL hC T hB2 p2 (by omega) lb (by omega) (by have:=q2 k (by omega) (by omega); omega)
 ·rw [if_neg kp]
  have e : k = 0:=by omega
  subst e
  exact wL hC T hB2 h la lb li (by have:=q2 0 (by omega) (by omega); rw [Nat.add_zero] at this; omega)
theorem vJ {st : SortSt} {a b : Array Keyed} {Q : Array Keyed→SortSt→Prop} (hC : Cmp prog w A s κ a₀ key) (hB : SM κ ar pd st) (T : Two key a₀ a b)
  (h : ∀ out st',Fi key a b out→SM κ ar pd st'→Q out st') : wpS (model prog w) A E s (nC a b) Q st:=by
 have a1:=T.a1
 have b1:=T.b1
 rw [vI]
 refine wpS_bind (wpS_lift (wpAny_rule ⟨rfl,?_⟩))
 refine wpS_bind (bJ (getElem?_pos b 0 (by omega)) ?_)
 dsimp only
 have p0 : MI key a b #[b[0]] 0 1:=by
  have : MI key a b #[] 0 0:=⟨by unfold PI; simp,List.Pairwise.nil,fun x hx=>by simp at hx,fun x hx=>by simp at hx⟩
  exact this.pushB (by omega) T.sb fun _=>T.c0
 by_cases e1 : (1 == b.size) = true
 ·rw [if_pos e1]
  exact wpS_pure (h _ _ (T.done p0 (by omega) (by simpa using e1)) hB)
 rw [if_neg e1]
 have n1 : ¬ (1 = b.size):=by simpa using e1
 by_cases e2 : (0 + 1 == a.size) = true
 ·rw [if_pos e2]
  exact wpS_pure (h _ _ (T.last p0 (by simpa using e2) (by omega)) hB)
 rw [if_neg e2]
 have n2 : ¬ (0 + 1 = a.size):=by simpa using e2
 refine wpS_bind (wpS_get ?_)
 refine wpS_bind (wpS_mono (wpS_forRange (I:=fun i c st'=>SM κ ar pd st'∧∃ out ia ib mg,c = (none,out,ia,ib,mg)∧MI key a b out ia ib∧ia + 1 < a.size∧ib < b.size∧i ≤ ia + ib) (Q:=fun c st'=>SM κ ar pd st'∧∃ r c',c = (some r,c')∧Fi key a b r) ?_ ?_ ⟨hB,_,_,_,_,rfl,p0,by omega,by omega,by omega⟩) ?_)
 ·rintro i c st1 _ hi ⟨hB0,out,ia,ib,mg,rfl,p1,la,lb,li⟩
  dsimp only
  refine wpS_bind (wpS_mono (wpS_forRange (I:=fun x c st'=>SM κ ar pd st'∧∃ out ia ib ac bc,c = (none,out,ia,ib,ac,bc)∧MI key a b out ia ib∧ia + 1 < a.size∧ib < b.size∧i + x ≤ ia + ib) (Q:=fun c st'=>SM κ ar pd st'∧((∃ r c',c = (some r,c')∧Fi key a b r)∨∃ out ia ib ac bc,c = (none,out,ia,ib,ac,bc)∧MI key a b out ia ib∧ia + 1 < a.size∧ib < b.size∧i + 1 ≤ ia + ib)) ?_ ?_ ⟨hB0,_,_,_,_,_,rfl,p1,la,lb,by omega⟩) ?_)
  ·rintro x c st2 _ hx ⟨hB1,out,ia,ib,ac,bc,rfl,p1,la,lb,li⟩
   dsimp only
   refine wpS_bind (bJ (getElem?_pos b ib (by omega)) ?_)
   refine wpS_bind (bJ (getElem?_pos a ia (by omega)) ?_)
   refine wpS_bind (lB hC hB1.kind (T.hb _ (by simp)) (T.ha _ (by simp)) ?_)
   rw [← cG (key:=key) (a:=b) (i:=ib) (by omega),← cG (key:=key) (a:=a) (i:=ia) (by omega)]
   by_cases bw : kk key b ib < kk key a ia
   ·rw [decide_eq_true bw]
    dsimp only
    rw [if_pos rfl]
    refine wpS_bind (bJ (getElem?_pos b ib (by omega)) ?_)
    have p2:=p1.pushB (show ib < b.size by omega) T.sb fun _=>by omega
    by_cases f1 : (ib + 1 == b.size) = true
    ·rw [if_pos f1]; exact wpS_pure ⟨hB1,.inl ⟨_,_,rfl,T.done p2 (by omega) (by simpa using f1)⟩⟩
    rw [if_neg f1]
    have g1 : ¬ (ib + 1 = b.size):=by simpa using f1
    split
    ·exact wpS_pure ⟨hB1,.inr ⟨_,_,_,_,_,rfl,p2,by omega,by omega,by omega⟩⟩
    ·exact wpS_pure ⟨hB1,_,_,_,_,_,rfl,p2,by omega,by omega,by omega⟩
   ·rw [decide_eq_false bw]
    dsimp only
    rw [if_neg (by decide)]
    refine wpS_bind (bJ (getElem?_pos a ia (by omega)) ?_)
    have p2:=p1.pushA (show ia < a.size by omega) T.sa fun _=>by omega
    by_cases f1 : (ia + 1 + 1 == a.size) = true
    ·rw [if_pos f1]; exact wpS_pure ⟨hB1,.inl ⟨_,_,rfl,T.last p2 (by simpa using f1) (by omega)⟩⟩
    rw [if_neg f1]
    have g1 : ¬ (ia + 1 + 1 = a.size):=by simpa using f1
    split
    ·exact wpS_pure ⟨hB1,.inr ⟨_,_,_,_,_,rfl,p2,by omega,by omega,by omega⟩⟩
    ·exact wpS_pure ⟨hB1,_,_,_,_,_,rfl,p2,by omega,by omega,by omega⟩
  ·rintro c st2 ⟨hB1,out,ia,ib,ac,bc,rfl,p1,la,lb,li⟩
   exact ⟨hB1,.inr ⟨_,_,_,_,_,rfl,p1,la,lb,by omega⟩⟩
  ·rintro c st2 ⟨hB1,⟨r,c',rfl,hp⟩ | ⟨out,ia,ib,ac,bc,rfl,p1,la,lb,li⟩⟩
   ·exact wpS_pure ⟨hB1,_,_,rfl,hp⟩
   ·dsimp only
    refine wpS_bind (wpS_lift (wpAny_rule ⟨rfl,?_⟩))
    refine wpS_bind (wpS_mono (wpS_forRange (I:=fun x c st'=>SM κ ar pd st'∧∃ out ia ib mg ac bc,c = (none,out,ia,ib,mg,ac,bc)∧MI key a b out ia ib∧ia + 1 < a.size∧ib < b.size∧i + 1 ≤ ia + ib) (Q:=fun c st'=>SM κ ar pd st'∧((∃ r c',c = (some r,c')∧Fi key a b r)∨∃ out ia ib mg ac bc,c = (none,out,ia,ib,mg,ac,bc)∧MI key a b out ia ib∧ia + 1 < a.size∧ib < b.size∧i + 1 ≤ ia + ib)) ?_ ?_ ⟨hB1,_,_,_,_,_,_,rfl,p1,la,lb,li⟩) ?_)
    ·rintro x c st2 _ hx ⟨hB1,out,ia,ib,mg,ac,bc,rfl,p1,la,lb,li⟩
     change wpS (model prog w) A E s (if mg > 1 then loA a b out ia ib (mg - 1) ac bc else loA a b out ia ib mg ac bc) _ st2
     split <;>
     ·refine wpS_mono (aCW hC T hB1 p1 la lb li) ?_
      rintro r st' ⟨m,⟨x,c,rfl,hf⟩ | ⟨out,ia,ib,mg,ac,bc,rfl | rfl,hh⟩⟩
      ·exact ⟨m,.inl ⟨_,_,rfl,hf⟩⟩
      ·exact ⟨m,.inr ⟨_,_,_,_,_,_,rfl,hh⟩⟩
      ·exact ⟨m,_,_,_,_,_,_,rfl,hh⟩
    ·rintro c st2 ⟨hB1,hh⟩
     exact ⟨hB1,.inr hh⟩
    ·rintro c st2 ⟨hB1,⟨r,c',rfl,hp⟩ | ⟨out,ia,ib,mg,ac,bc,rfl,p1,la,lb,li⟩⟩
     ·exact wpS_pure ⟨hB1,_,_,rfl,hp⟩
     ·dsimp only
      rw [dJ]
      refine wpS_bind (wpS_modify ?_)
      exact wpS_pure ⟨⟨hB1.arr,hB1.kind,hB1.failed,hB1.pend⟩,_,_,_,_,rfl,p1,la,lb,li⟩
 ·rintro c st1 ⟨hB0,out,ia,ib,mg,rfl,p1,la,lb,li⟩
  omega
 ·rintro c st1 ⟨hB0,r,c',rfl,hp⟩
  exact wpS_pure (h r st1 hp hB0)
end
end PyProof.Rows
namespace PyProof.Rows
open PySem
abbrev HSt:=Option (Array Keyed) × Nat × Nat × Array Keyed × Nat × Nat × Nat
abbrev iE (a b out : Array Keyed) (na nb : Nat):=a.extract 0 na ++ b.extract 0 nb ++ out.reverse
abbrev jG (a b out : Array Keyed) (na nb : Nat):=b.extract 0 nb ++ a.extract 0 na ++ out.reverse
def hiC (a b : Array Keyed) (na nb : Nat) (out : Array Keyed) (mg ac bc : Nat) : StateT SortSt Sem (ForInStep HSt):=do
 let x ← elem' a (na - 1)
 if na - 1 == 0 then pure (.done (some (iE a b (out.push x) (na - 1) nb),na - 1,nb,out.push x,mg,ac,bc))
 else if ac < 7 && bc < 7 then pure (.done (none,na - 1,nb,out.push x,mg,ac,bc)) else pure (.yield (none,na - 1,nb,out.push x,mg,ac,bc))
def hiB (a b : Array Keyed) (na nb : Nat) (out : Array Keyed) (mg ac bc : Nat) : StateT SortSt Sem (ForInStep HSt):=do
 let x ← elem' b (nb - 1)
 if nb - 1 == 1 then pure (.done (some (jG a b (out.push x) na (nb - 1)),na,nb - 1,out.push x,mg,ac,bc))
 else do
  let some at_ ← cY true (← elem' a (na - 1)) b 0 (nb - 1) (nb - 1 - 1) | pure (.done (some (iE a b (out.push x) na (nb - 1)),na,nb - 1,out.push x,mg,ac,bc))
  if nb - 1 - at_ > 0 then
   if at_ == 1 then pure (.done (some (jG a b (out.push x ++ (b.extract at_ (nb - 1)).reverse) na at_),na,at_,out.push x ++ (b.extract at_ (nb - 1)).reverse,mg,ac,nb - 1 - at_))
   else if at_ == 0 then pure (.done (some (iE a b (out.push x ++ (b.extract at_ (nb - 1)).reverse) na at_),na,at_,out.push x ++ (b.extract at_ (nb - 1)).reverse,mg,ac,nb - 1 - at_))
   else hiC a b na at_ (out.push x ++ (b.extract at_ (nb - 1)).reverse) mg ac (nb - 1 - at_)
  else hiC a b na (nb - 1) (out.push x) mg ac (nb - 1 - at_)
def hiA (a b : Array Keyed) (na nb : Nat) (out : Array Keyed) (mg ac bc : Nat) : StateT SortSt Sem (ForInStep HSt):=do
 cR mg
 let some at_ ← cY false (← elem' b (nb - 1)) a 0 na (na - 1) | pure (.done (some (iE a b out na nb),na,nb,out,mg,ac,bc))
 if na - at_ > 0 then
  if at_ == 0 then pure (.done (some (iE a b (out ++ (a.extract at_ na).reverse) at_ nb),at_,nb,out ++ (a.extract at_ na).reverse,mg,na - at_,bc))
  else hiB a b at_ nb (out ++ (a.extract at_ na).reverse) mg (na - at_) bc
 else hiB a b na nb out mg (na - at_) bc
theorem vK (a b : Array Keyed) : nE a b = (do
 rule "list.sort.merge-hi"
 let total:=a.size + b.size
 let done (out : Array Keyed) (na nb : Nat):=a.extract 0 na ++ b.extract 0 nb ++ out.reverse
 let firstOfB (out : Array Keyed) (na nb : Nat):=b.extract 0 nb ++ a.extract 0 na ++ out.reverse
 let mut na:=a.size - 1
 let mut nb:=b.size
 let mut out : Array Keyed:=#[← elem' a na]
 if na == 0 then return done out na nb
 if nb == 1 then return firstOfB out na nb
 let mut minGallop:=gallopOf (← get)
 for _ in [0:total] do
  let mut acount:=0
  let mut bcount:=0
  for _ in [0:total] do
   let some aWins ← lt' (← elem' b (nb - 1)) (← elem' a (na - 1)) | return done out na nb
   if aWins then
    na:=na - 1; out:=out.push (← elem' a na); acount:=acount + 1; bcount:=0
    if na == 0 then return done out na nb
    if acount ≥ minGallop then break
   else
    nb:=nb - 1; out:=out.push (← elem' b nb); bcount:=bcount + 1; acount:=0
    if nb == 1 then return firstOfB out na nb
    if bcount ≥ minGallop then break
  rule "list.sort.gallop"
  minGallop:=minGallop + 1
  for _ in [0:total] do
   if minGallop > 1 then minGallop:=minGallop - 1
   cR minGallop
   let some at_ ← cY false (← elem' b (nb - 1)) a 0 na (na - 1) | return done out na nb
   let k:=na - at_
   acount:=k
   if k > 0 then
    out:=out ++ (a.extract at_ na).reverse; na:=at_
    if na == 0 then return done out na nb
   nb:=nb - 1; out:=out.push (← elem' b nb)
   if nb == 1 then return firstOfB out na nb
   let some at_ ← cY true (← elem' a (na - 1)) b 0 nb (nb - 1) | return done out na nb
   let k:=nb - at_
   bcount:=k
   if k > 0 then
    out:=out ++ (b.extract at_ nb).reverse; nb:=at_
    if nb == 1 then return firstOfB out na nb
    if nb == 0 then return done out na nb
   na:=na - 1; out:=out.push (← elem' a na)
   if na == 0 then return done out na nb
   if acount < 7 && bcount < 7 then break
  minGallop:=minGallop + 1
  cR minGallop
 unsupported "internal:list.sort.merge-bound"):=rfl
def PH (a b out : Array Keyed) (na nb : Nat) : Prop:=out.toList.Perm (a.toList.drop na ++ b.toList.drop nb)
theorem PH.pushA {a b out : Array Keyed} {na nb : Nat} (h : PH a b out na nb) (h1 : 1 ≤ na) (hi : na - 1 < a.size) : PH a b (out.push a[na - 1]) (na - 1) nb:=by
 unfold PH at h ⊢
 have e : a.toList.drop (na - 1) = a[na - 1] :: a.toList.drop na:=by
  have:=List.drop_eq_getElem_cons (l:=a.toList) (i:=na - 1) (by simpa using hi)
  rw [this,Nat.sub_add_cancel h1]
  simp
 rw [Array.toList_push,e]
 refine (h.append_right _).trans ?_
 exact List.perm_append_comm
theorem aCX {a : Array Keyed} {k n : Nat} (h : k < n) (hn : n ≤ a.size) : (a.extract k n).reverse = (a.extract (k + 1) n).reverse.push a[k]:=by
 apply Array.toList_inj.mp
 rw [Array.toList_push,Array.toList_reverse,Array.toList_reverse,dL,dL]
 have e:=List.drop_eq_getElem_cons (l:=a.toList) (i:=k) (by simp; omega)
 rw [e,show n - k = (n - (k + 1)) + 1 by omega,List.take_succ_cons,List.reverse_cons]
 congr 2
theorem tJ {l : List Keyed} {i j : Nat} (h : i ≤ j) : l.drop i = (l.drop i).take (j - i) ++ l.drop j:=by
 have:=(List.take_append_drop (j - i) (l.drop i)).symm
 rw [List.drop_drop,show i + (j - i) = j by omega] at this
 exact this
structure HI (key : Keyed→Int) (a b out : Array Keyed) (na nb : Nat) : Prop where
 perm : PH a b out na nb
 so : out.toList.Pairwise fun x y=>key y ≤ key x
 la : ∀ x∈out.toList,0 < na→kk key a (na - 1) ≤ key x
 lb : ∀ x∈out.toList,0 < nb→kk key b (nb - 1) ≤ key x
section
variable {key : Keyed→Int} {a b out : Array Keyed} {na nb : Nat}
theorem HI.swap (h : HI key a b out na nb) : HI key b a out nb na:=⟨h.perm.trans List.perm_append_comm,h.so,h.lb,h.la⟩
theorem HI.pushA (h : HI key a b out na nb) (h1 : 1 ≤ na) (hi : na - 1 < a.size) (sa : So key a 0 a.size) (c : 0 < nb→kk key b (nb - 1) ≤ kk key a (na - 1)) : HI key a b (out.push a[na - 1]) (na - 1) nb:=by
 refine ⟨h.perm.pushA h1 hi,?_,fun x hx hl=>?_,fun x hx hl=>?_⟩
 ·rw [Array.toList_push]
  refine List.pairwise_append.mpr ⟨h.so,List.pairwise_singleton _ _,fun x hx y hy=>?_⟩
  rw [List.mem_singleton.mp hy,← cG (key:=key) hi]
  exact h.la x hx (by omega)
 ·rw [Array.toList_push] at hx
  have:=sa (na - 1 - 1) (na - 1) (by omega) (by omega) hi
  rcases List.mem_append.mp hx with z | z
  ·have:=h.la x z (by omega); omega
  ·rw [List.mem_singleton.mp z,← cG (key:=key) hi]; exact this
 ·rw [Array.toList_push] at hx
  rcases List.mem_append.mp hx with z | z
  ·exact h.lb x z hl
  ·rw [List.mem_singleton.mp z,← cG (key:=key) hi]; exact c hl
theorem HI.appA (h : HI key a b out na nb) (sa : So key a 0 a.size) (hn : na ≤ a.size) : ∀ (d k : Nat),na = k + d→(0 < nb→∀ i,k ≤ i→i < na→kk key b (nb - 1) ≤ kk key a i)→HI key a b (out ++ (a.extract k na).reverse) k nb
 | 0,k,e,_=>by
  have e' : a.extract k na = #[]:=by simp; omega
  have e2 : k = na:=by omega
  subst e2
  rw [e',Array.reverse_empty,Array.append_empty]; exact h
 | d + 1,k,e,c=>by
  have:=(HI.appA h sa hn d (k + 1) (by omega) fun hb i h1 h2=>c hb i (by omega) h2).pushA (by omega) (by omega) sa fun hb=>c hb _ (by omega) (by omega)
  rw [aCX (by omega) hn,← Array.push_append]
  exact this
theorem HI.pushB (h : HI key a b out na nb) (h1 : 1 ≤ nb) (hi : nb - 1 < b.size) (sb : So key b 0 b.size) (c : 0 < na→kk key a (na - 1) ≤ kk key b (nb - 1)) : HI key a b (out.push b[nb - 1]) na (nb - 1):=(h.swap.pushA h1 hi sb c).swap
theorem HI.appB (h : HI key a b out na nb) (sb : So key b 0 b.size) (hn : nb ≤ b.size) (k : Nat) (hk : k ≤ nb) (c : 0 < na→∀ i,k ≤ i→i < nb→kk key a (na - 1) ≤ kk key b i) : HI key a b (out ++ (b.extract k nb).reverse) na k:=(h.swap.appA sb hn (nb - k) k (by omega) c).swap
theorem HI.first (h : HI key a b out na nb) (sa : So key a 0 a.size) (sb : So key b 0 b.size) (ha : na ≤ a.size) (hb : nb ≤ b.size) (c : 0 < nb→∀ i,i < na→kk key b (nb - 1) ≤ kk key a i) : Fi key a b (jG a b out na nb):=by
 have h1:=h.appA sa ha na 0 (by omega) fun z i _ hi=>c z i hi
 have h2:=h1.appB sb hb 0 (by omega) fun z=>by omega
 have e : jG a b out na nb = (out ++ (a.extract 0 na).reverse ++ (b.extract 0 nb).reverse).reverse:=by simp
 rw [e]
 refine ⟨?_,?_⟩
 ·have:=h2.perm
  unfold PH at this
  rw [List.drop_zero,List.drop_zero] at this
  rw [Array.perm_iff_toList_perm,Array.toList_reverse,Array.toList_append (xs:=a)]
  exact (List.reverse_perm _).trans this
 ·rw [Array.toList_reverse,List.pairwise_reverse]
  exact h2.so
theorem HI.done (h : HI key a b out na nb) (sa : So key a 0 a.size) (sb : So key b 0 b.size) (ha : na ≤ a.size) (hb : nb ≤ b.size) (c : 0 < na→∀ i,i < nb→kk key a (na - 1) ≤ kk key b i) : Fi key a b (iE a b out na nb):=by
 have:=h.swap.first sb sa hb ha c
 refine ⟨this.1.trans ?_,this.2⟩
 rw [Array.perm_iff_toList_perm,Array.toList_append,Array.toList_append]
 exact List.perm_append_comm
end
section
variable {prog : Program} {w : World} {A : Around} {E : Value→Shared→Prop} {s : Shared} {κ : SortKind} {a₀ : Array Keyed} {pd : Array (Nat × Nat × Nat)} {ar : Array Keyed} {key : Keyed→Int}
theorem Two.first {a b : Array Keyed} (T : Two key a₀ a b) {out : Array Keyed} {na nb : Nat} (h : HI key a b out na nb) (ha : na ≤ a.size) (hb : nb = 1) : Fi key a b (jG a b out na nb) :=
 h.first T.sa T.sb ha (by have:=T.b1; omega) fun _ i hi=>by
  have h0:=T.c0
  have h1:=T.sa 0 i (by omega) (by omega) (by omega)
  rw [show nb - 1 = 0 by omega]
  omega
theorem Two.doneH {a b : Array Keyed} (T : Two key a₀ a b) {out : Array Keyed} {na nb : Nat} (h : HI key a b out na nb) (ha : na ≤ a.size) (hb : nb ≤ b.size) (hz : na = 0∨nb = 0) : Fi key a b (iE a b out na nb) :=
 h.done T.sa T.sb ha hb fun z i hi=>by omega
def GH (κ : SortKind) (ar : Array Keyed) (pd : Array (Nat × Nat × Nat)) (key : Keyed→Int) (a b : Array Keyed) (n : Nat) (r : ForInStep HSt) (st : SortSt) : Prop:=SM κ ar pd st ∧
 ((∃ x c,r = .done (some x,c)∧Fi key a b x)∨∃ na nb out mg ac bc,(r = .done (none,na,nb,out,mg,ac,bc)∨r = .yield (none,na,nb,out,mg,ac,bc))∧HI key a b out na nb∧1 ≤ na∧2 ≤ nb∧na ≤ a.size∧nb ≤ b.size∧n + na + nb ≤ a.size + b.size)
theorem wM {st : SortSt} {a b out : Array Keyed} {na nb mg ac bc n : Nat} (T : Two key a₀ a b) (hB : SM κ ar pd st) (h : HI key a b out na nb) (la : 1 ≤ na) (lb : 2 ≤ nb) (ma : na ≤ a.size) (mb : nb ≤ b.size) (li : n + na + nb ≤ a.size + b.size) (c : kk key b (nb - 1) ≤ kk key a (na - 1)) :
  wpS (model prog w) A E s (hiC a b na nb out mg ac bc) (GH κ ar pd key a b n) st:=by
 unfold hiC
 refine wpS_bind (bJ (getElem?_pos a (na - 1) (by omega)) ?_)
 have p:=h.pushA la (show na - 1 < a.size by omega) T.sa fun _=>c
 by_cases f : (na - 1 == 0) = true
 ·rw [if_pos f]; exact wpS_pure ⟨hB,.inl ⟨_,_,rfl,T.doneH p (by omega) (by omega) (.inl (by simpa using f))⟩⟩
 rw [if_neg f]
 have g : ¬ (na - 1 = 0):=by simpa using f
 split
 ·exact wpS_pure ⟨hB,.inr ⟨_,_,_,_,_,_,.inl rfl,p,by omega,by omega,by omega,by omega,by omega⟩⟩
 ·exact wpS_pure ⟨hB,.inr ⟨_,_,_,_,_,_,.inr rfl,p,by omega,by omega,by omega,by omega,by omega⟩⟩
theorem wN {st : SortSt} {a b out : Array Keyed} {na nb mg ac bc n : Nat} (hC : Cmp prog w A s κ a₀ key) (T : Two key a₀ a b) (hB : SM κ ar pd st) (h : HI key a b out na nb) (la : 1 ≤ na) (lb : 2 ≤ nb) (ma : na ≤ a.size) (mb : nb ≤ b.size) (li : n + na + nb ≤ a.size + b.size) (c : kk key a (na - 1) ≤ kk key b (nb - 1)) :
  wpS (model prog w) A E s (hiB a b na nb out mg ac bc) (GH κ ar pd key a b n) st:=by
 unfold hiB
 refine wpS_bind (bJ (getElem?_pos b (nb - 1) (by omega)) ?_)
 have p:=h.pushB (by omega) (show nb - 1 < b.size by omega) T.sb fun _=>c
 by_cases f : (nb - 1 == 1) = true
 ·rw [if_pos f]; exact wpS_pure ⟨hB,.inl ⟨_,_,rfl,T.first p (by omega) (by simpa using f)⟩⟩
 rw [if_neg f]
 have g : ¬ (nb - 1 = 1):=by simpa using f
 refine wpS_bind (bJ (getElem?_pos a (na - 1) (by omega)) ?_)
 refine wpS_bind (eG hC hB.kind (T.ha _ (by simp)) T.hb (by omega) (by omega) (fun i j h1 h2 h3=>T.sb i j (by omega) h2 (by omega)) fun k hk q1 q2=>?_)
 rw [← cG (key:=key) (a:=a) (i:=na - 1) (by omega)] at q1 q2
 simp only [thr,if_true,Nat.zero_add] at q1 q2
 dsimp only
 by_cases kp : nb - 1 - k > 0
 ·rw [if_pos kp]
  have p2:=p.appB T.sb (by omega) k hk fun _ i h1 h2=>q2 i h1 h2
  by_cases f2 : (k == 1) = true
  ·rw [if_pos f2]; exact wpS_pure ⟨hB,.inl ⟨_,_,rfl,T.first p2 (by omega) (by simpa using f2)⟩⟩
  rw [if_neg f2]
  have g2 : ¬ (k = 1):=by simpa using f2
  by_cases f6 : (k == 0) = true
  ·rw [if_pos f6]; exact wpS_pure ⟨hB,.inl ⟨_,_,rfl,T.doneH p2 (by omega) (by omega) (.inr (by simpa using f6))⟩⟩
  rw [if_neg f6]
  have g6 : ¬ (k = 0):=by simpa using f6
  exact wM T hB p2 la (by omega) ma (by omega) (by omega) (by have:=q1 (k - 1) (by omega); omega)
 ·rw [if_neg kp]
  have e : k = nb - 1:=by omega
  subst e
  exact wM T hB p la (by omega) ma (by omega) (by omega) (by have:=q1 (nb - 1 - 1) (by omega); omega)
theorem aCY {st : SortSt} {a b out : Array Keyed} {na nb mg ac bc n : Nat} (hC : Cmp prog w A s κ a₀ key) (T : Two key a₀ a b) (hB : SM κ ar pd st) (h : HI key a b out na nb) (la : 1 ≤ na) (lb : 2 ≤ nb) (ma : na ≤ a.size) (mb : nb ≤ b.size) (li : n + na + nb ≤ a.size + b.size) :
  wpS (model prog w) A E s (hiA a b na nb out mg ac bc) (GH κ ar pd key a b n) st:=by
 unfold hiA
 rw [dJ]
 refine wpS_bind (wpS_modify ?_)
 have hB2 : SM κ ar pd (SortSt.mk' (kindOf st) (arrOf st) (pendingOf st) mg (failedOf st)):=⟨hB.arr,hB.kind,hB.failed,hB.pend⟩
 refine wpS_bind (bJ (getElem?_pos b (nb - 1) (by omega)) ?_)
 refine wpS_bind (eG hC hB2.kind (T.hb _ (by simp)) T.ha (by omega) (by omega) (fun i j h1 h2 h3=>T.sa i j (by omega) h2 (by omega)) fun k hk q1 q2=>?_)
 rw [← cG (key:=key) (a:=b) (i:=nb - 1) (by omega)] at q1 q2
 simp only [thr,Bool.false_eq_true,if_false,Nat.zero_add] at q1 q2
 dsimp only
 by_cases kp : na - k > 0
 ·rw [if_pos kp]
  have p2:=h.appA T.sa ma (na - k) k (by omega) fun _ i h1 h2=>by have:=q2 i h1 h2; omega
  by_cases f4 : (k == 0) = true
  ·rw [if_pos f4]; exact wpS_pure ⟨hB2,.inl ⟨_,_,rfl,T.doneH p2 (by omega) (by omega) (.inl (by simpa using f4))⟩⟩
  rw [if_neg f4]
  have g4 : ¬ (k = 0):=by simpa using f4
  exact wN hC T hB2 p2 (by omega) lb (by omega) mb (by omega) (by have:=q1 (k - 1) (by omega); omega)
 ·rw [if_neg kp]
  have e : k = na:=by omega
  subst e
  exact wN hC T hB2 h la lb ma mb li (by have:=q1 (k - 1) (by omega); omega)
theorem vL {st : SortSt} {a b : Array Keyed} {Q : Array Keyed→SortSt→Prop} (hC : Cmp prog w A s κ a₀ key) (hB : SM κ ar pd st) (T : Two key a₀ a b)
  (h : ∀ out st',Fi key a b out→SM κ ar pd st'→Q out st') : wpS (model prog w) A E s (nE a b) Q st:=by
 have a1:=T.a1
 have b1:=T.b1
 rw [vK]
 refine wpS_bind (wpS_lift (wpAny_rule ⟨rfl,?_⟩))
 refine wpS_bind (bJ (getElem?_pos a (a.size - 1) (by omega)) ?_)
 dsimp only
 have p0 : HI key a b #[a[a.size - 1]] (a.size - 1) b.size:=by
  have : HI key a b #[] a.size b.size:=⟨by unfold PH; simp,List.Pairwise.nil,fun x hx=>by simp at hx,fun x hx=>by simp at hx⟩
  exact this.pushA a1 (by omega) T.sa fun _=>T.c1 _ (by omega)
 by_cases e1 : (a.size - 1 == 0) = true
 ·rw [if_pos e1]
  exact wpS_pure (h _ _ (T.doneH p0 (by omega) (by omega) (.inl (by simpa using e1))) hB)
 rw [if_neg e1]
 have n1 : ¬ (a.size - 1 = 0):=by simpa using e1
 by_cases e2 : (b.size == 1) = true
 ·rw [if_pos e2]
  exact wpS_pure (h _ _ (T.first p0 (by omega) (by simpa using e2)) hB)
 rw [if_neg e2]
 have n2 : ¬ (b.size = 1):=by simpa using e2
 refine wpS_bind (wpS_get ?_)
 refine wpS_bind (wpS_mono (wpS_forRange (I:=fun i c st'=>SM κ ar pd st'∧∃ na nb out mg,c = (none,na,nb,out,mg)∧HI key a b out na nb∧1 ≤ na∧2 ≤ nb∧na ≤ a.size∧nb ≤ b.size∧i + na + nb ≤ a.size + b.size) (Q:=fun c st'=>SM κ ar pd st'∧∃ r c',c = (some r,c')∧Fi key a b r) ?_ ?_ ⟨hB,_,_,_,_,rfl,p0,by omega,by omega,by omega,by omega,by omega⟩) ?_)
 ·rintro i c st1 _ hi ⟨hB0,na,nb,out,mg,rfl,p1,la,lb,ma,mb,li⟩
  dsimp only
  refine wpS_bind (wpS_mono (wpS_forRange (I:=fun x c st'=>SM κ ar pd st'∧∃ na nb out ac bc,c = (none,na,nb,out,ac,bc)∧HI key a b out na nb∧1 ≤ na∧2 ≤ nb∧na ≤ a.size∧nb ≤ b.size∧i + x + na + nb ≤ a.size + b.size) (Q:=fun c st'=>SM κ ar pd st'∧((∃ r c',c = (some r,c')∧Fi key a b r)∨∃ na nb out ac bc,c = (none,na,nb,out,ac,bc)∧HI key a b out na nb∧1 ≤ na∧2 ≤ nb∧na ≤ a.size∧nb ≤ b.size∧i + 1 + na + nb ≤ a.size + b.size)) ?_ ?_ ⟨hB0,_,_,_,_,_,rfl,p1,la,lb,ma,mb,by omega⟩) ?_)
  ·rintro x c st2 _ hx ⟨hB1,na,nb,out,ac,bc,rfl,p1,la,lb,ma,mb,li⟩
   dsimp only
   refine wpS_bind (bJ (getElem?_pos b (nb - 1) (by omega)) ?_)
   refine wpS_bind (bJ (getElem?_pos a (na - 1) (by omega)) ?_)
   refine wpS_bind (lB hC hB1.kind (T.hb _ (by simp)) (T.ha _ (by simp)) ?_)
   rw [← cG (key:=key) (a:=b) (i:=nb - 1) (by omega),← cG (key:=key) (a:=a) (i:=na - 1) (by omega)]
   by_cases aw : kk key b (nb - 1) < kk key a (na - 1)
   ·rw [decide_eq_true aw]
    dsimp only
    rw [if_pos rfl]
    refine wpS_bind (bJ (getElem?_pos a (na - 1) (by omega)) ?_)
    have p2:=p1.pushA (show 1 ≤ na by omega) (show na - 1 < a.size by omega) T.sa fun _=>by omega
    by_cases f1 : (na - 1 == 0) = true
    ·rw [if_pos f1]; exact wpS_pure ⟨hB1,.inl ⟨_,_,rfl,T.doneH p2 (by omega) (by omega) (.inl (by simpa using f1))⟩⟩
    rw [if_neg f1]
    have g1 : ¬ (na - 1 = 0):=by simpa using f1
    split
    ·exact wpS_pure ⟨hB1,.inr ⟨_,_,_,_,_,rfl,p2,by omega,by omega,by omega,by omega,by omega⟩⟩
    ·exact wpS_pure ⟨hB1,_,_,_,_,_,rfl,p2,by omega,by omega,by omega,by omega,by omega⟩
   ·rw [decide_eq_false aw]
    dsimp only
    rw [if_neg (by decide)]
    refine wpS_bind (bJ (getElem?_pos b (nb - 1) (by omega)) ?_)
    have p2:=p1.pushB (show 1 ≤ nb by omega) (show nb - 1 < b.size by omega) T.sb fun _=>by omega
    by_cases f1 : (nb - 1 == 1) = true
    ·rw [if_pos f1]; exact wpS_pure ⟨hB1,.inl ⟨_,_,rfl,T.first p2 (by omega) (by simpa using f1)⟩⟩
    rw [if_neg f1]
    have g1 : ¬ (nb - 1 = 1):=by simpa using f1
    split
    ·exact wpS_pure ⟨hB1,.inr ⟨_,_,_,_,_,rfl,p2,by omega,by omega,by omega,by omega,by omega⟩⟩
    ·exact wpS_pure ⟨hB1,_,_,_,_,_,rfl,p2,by omega,by omega,by omega,by omega,by omega⟩
  ·rintro c st2 ⟨hB1,na,nb,out,ac,bc,rfl,p1,la,lb,ma,mb,li⟩
   exact ⟨hB1,.inr ⟨_,_,_,_,_,rfl,p1,la,lb,ma,mb,by omega⟩⟩
  ·rintro c st2 ⟨hB1,⟨r,c',rfl,hp⟩ | ⟨na,nb,out,ac,bc,rfl,p1,la,lb,ma,mb,li⟩⟩
   ·exact wpS_pure ⟨hB1,_,_,rfl,hp⟩
   ·dsimp only
    refine wpS_bind (wpS_lift (wpAny_rule ⟨rfl,?_⟩))
    refine wpS_bind (wpS_mono (wpS_forRange (I:=fun x c st'=>SM κ ar pd st'∧∃ na nb out mg ac bc,c = (none,na,nb,out,mg,ac,bc)∧HI key a b out na nb∧1 ≤ na∧2 ≤ nb∧na ≤ a.size∧nb ≤ b.size∧i + 1 + na + nb ≤ a.size + b.size) (Q:=fun c st'=>SM κ ar pd st'∧((∃ r c',c = (some r,c')∧Fi key a b r)∨∃ na nb out mg ac bc,c = (none,na,nb,out,mg,ac,bc)∧HI key a b out na nb∧1 ≤ na∧2 ≤ nb∧na ≤ a.size∧nb ≤ b.size∧i + 1 + na + nb ≤ a.size + b.size)) ?_ ?_ ⟨hB1,_,_,_,_,_,_,rfl,p1,la,lb,ma,mb,li⟩) ?_)
    ·rintro x c st2 _ hx ⟨hB1,na,nb,out,mg,ac,bc,rfl,p1,la,lb,ma,mb,li⟩
     change wpS (model prog w) A E s (if mg > 1 then hiA a b na nb out (mg - 1) ac bc else hiA a b na nb out mg ac bc) _ st2
     split <;>
     ·refine wpS_mono (aCY hC T hB1 p1 la lb ma mb li) ?_
      rintro r st' ⟨m,⟨x,c,rfl,hf⟩ | ⟨na,nb,out,mg,ac,bc,rfl | rfl,hh⟩⟩
      ·exact ⟨m,.inl ⟨_,_,rfl,hf⟩⟩
      ·exact ⟨m,.inr ⟨_,_,_,_,_,_,rfl,hh⟩⟩
      ·exact ⟨m,_,_,_,_,_,_,rfl,hh⟩
    ·rintro c st2 ⟨hB1,hh⟩
     exact ⟨hB1,.inr hh⟩
    ·rintro c st2 ⟨hB1,⟨r,c',rfl,hp⟩ | ⟨na,nb,out,mg,ac,bc,rfl,p1,la,lb,ma,mb,li⟩⟩
     ·exact wpS_pure ⟨hB1,_,_,rfl,hp⟩
     ·dsimp only
      rw [dJ]
      refine wpS_bind (wpS_modify ?_)
      exact wpS_pure ⟨⟨hB1.arr,hB1.kind,hB1.failed,hB1.pend⟩,_,_,_,_,rfl,p1,la,lb,ma,mb,li⟩
 ·rintro c st1 ⟨hB0,na,nb,out,mg,rfl,p1,la,lb,ma,mb,li⟩
  omega
 ·rintro c st1 ⟨hB0,r,c',rfl,hp⟩
  exact wpS_pure (h r st1 hp hB0)
end
end PyProof.Rows
namespace PyProof.Rows
open PySem
abbrev Run:=Nat × Nat × Nat
def Runs (key : Keyed→Int) (a : Array Keyed) : List Run→Nat→Nat→Prop
 | [],s,e=>s = e
 | r :: rs,s,e=>r.1 = s∧1 ≤ r.2.1∧So key a s (s + r.2.1)∧Runs key a rs (s + r.2.1) e
section
variable {key : Keyed→Int} {a : Array Keyed}
theorem Runs.le : ∀ {l : List Run} {s e : Nat},Runs key a l s e→s + l.length ≤ e
 | [],_,_,h=>Nat.le_of_eq h
 | r :: rs,s,e,⟨_,h2,_,h3⟩=>by have:=h3.le; rw [List.length_cons]; omega
theorem So.keep {a a' : Array Keyed} {s e : Nat} (h : So key a s e) (k : ∀ i,s ≤ i→i < e→a'[i]? = a[i]?) : So key a' s e:=fun i j h1 h2 h3=>by
 rw [eD (k i h1 (by omega)),eD (k j (by omega) h3)]
 exact h i j h1 h2 h3
theorem Runs.keep {a' : Array Keyed} : ∀ {l : List Run} {s e : Nat},Runs key a l s e→(∀ i,s ≤ i→i < e→a'[i]? = a[i]?)→Runs key a' l s e
 | [],_,_,h,_=>h
 | r :: rs,s,e,⟨h1,h2,h3,h4⟩,k=>by
  have:=h4.le
  exact ⟨h1,h2,h3.keep fun i a b=>k i a (by omega),h4.keep fun i a b=>k i (by omega) b⟩
theorem Runs.two : ∀ {l : List Run} {s e i : Nat} {x y : Run},Runs key a l s e→l[i]? = some x→l[i + 1]? = some y →
  s ≤ x.1∧x.1 + x.2.1 = y.1∧y.1 + y.2.1 ≤ e∧1 ≤ x.2.1∧1 ≤ y.2.1∧So key a x.1 y.1∧So key a y.1 (y.1 + y.2.1)∧∀ p a',Out a a' x.1 (y.1 + y.2.1)→So key a' x.1 (y.1 + y.2.1)→Runs key a' ((l.set i (x.1,x.2.1 + y.2.1,p)).eraseIdx (i + 1)) s e
 | r :: q :: rs,s,e,0,x,y,⟨h1,h2,h3,h4,h5,h6,h7⟩,hx,hy=>by
  obtain rfl:=Option.some.inj hx
  obtain rfl:=Option.some.inj hy
  have:=h7.le
  rw [h1,h4]
  refine ⟨Nat.le_refl _,rfl,by omega,h2,h5,h3,h6,fun p a' o so=>⟨rfl,by show 1 ≤ r.2.1 + q.2.1; omega,?_,?_⟩⟩
  ·show So key a' s (s + (r.2.1 + q.2.1))
   rw [← Nat.add_assoc]; exact so
  ·show Runs key a' rs (s + (r.2.1 + q.2.1)) e
   rw [← Nat.add_assoc]; exact h7.keep fun i a b=>o i (.inr a)
 | r :: rs,s,e,i + 1,x,y,⟨h1,h2,h3,h4⟩,hx,hy=>by
  obtain ⟨a0,a1,a2,a3,a4,a5,a6,a7⟩:=Runs.two (i:=i) h4 hx hy
  exact ⟨by omega,a1,a2,a3,a4,a5,a6,fun p a' o so=>⟨h1,h2,h3.keep fun i a b=>o i (.inl (by omega)),a7 p a' o so⟩⟩
theorem Runs.push : ∀ {l : List Run} {s e n p : Nat},Runs key a l s e→1 ≤ n→So key a e (e + n)→Runs key a (l ++ [(e,n,p)]) s (e + n)
 | [],s,e,n,p,h,hn,so=>⟨h.symm,hn,by rw [show s = e from h]; exact so,by rw [show s = e from h]; rfl⟩
 | r :: rs,s,e,n,p,⟨h1,h2,h3,h4⟩,hn,so=>⟨h1,h2,h3,Runs.push h4 hn so⟩
theorem Runs.pw : ∀ {l : List Run} {s e : Nat} (i p : Nat),Runs key a l s e→Runs key a (l.modify i fun r=>(r.1,r.2.1,p)) s e
 | [],s,e,i,p,h=>by cases i <;> exact h
 | r :: rs,s,e,0,p,⟨h1,h2,h3⟩=>⟨h1,h2,h3⟩
 | r :: rs,s,e,i + 1,p,⟨h1,h2,h3,h4⟩=>⟨h1,h2,h3,Runs.pw i p h4⟩
end
theorem aCZ {M : Model} {A : Around} {E : Value→Shared→Prop} {s : Shared} {σ : Type} {x : σ} {Q : PUnit→σ→Prop} {st : σ} (h : Q ⟨⟩ x) : wpS M A E s (set x : StateT σ Sem PUnit) Q st:=by
 unfold wpS; rw [StateT.run_set]; exact wpAny_pure ⟨rfl,h⟩
theorem vM (i : Nat) : mergeAt' i = (do
 let s ← get
 let (some (sa,na,power),some (sb,nb,_)):=((pendingOf s)[i]?,(pendingOf s)[i + 1]?) | unsupported "internal:list.sort.pending"
 set (setPending s (((pendingOf s).setIfInBounds i (sa,na + nb,power)).eraseIdxIfInBounds (i + 1)))
 let some k ← cY false (← elem' (arrOf s) sb) (arrOf s) sa na 0 | return false
 let (sa,na):=(sa + k,na - k)
 if na == 0 then return true
 let some nb ← cY true (← elem' (arrOf s) (sa + na - 1)) (arrOf s) sb nb (nb - 1) | return false
 if nb == 0 then return true
 let x:=(arrOf s).extract sa sb
 let y:=(arrOf s).extract sb (sb + nb)
 let merged ← if na ≤ nb then nC x y else nE x y
 modify fun s=>setArr s (merged.toList.zipIdx.foldl (fun a (p,j)=>a.setIfInBounds (sa + j) p) (arrOf s))
 return (failedOf (← get)).isNone):=rfl
theorem oO {sa : Nat} : ∀ (l : List Keyed) (k : Nat) (arr : Array Keyed),sa + k + l.length ≤ arr.size →
  ((l.zipIdx k).foldl (fun (a : Array Keyed) (x : Keyed × Nat)=>a.setIfInBounds (sa + x.2) x.1) arr).toList = arr.toList.take (sa + k) ++ l ++ arr.toList.drop (sa + k + l.length)
 | [],k,arr,_=>by simp
 | x :: l,k,arr,h=>by
  rw [List.length_cons] at h
  have hs : sa + k < arr.toList.length:=by rw [Array.length_toList]; omega
  rw [List.zipIdx_cons,List.foldl_cons,oO l (k + 1) _ (by rw [Array.size_setIfInBounds]; omega),Array.toList_setIfInBounds]
  dsimp only
  have e1 : (arr.toList.set (sa + k) x).take (sa + (k + 1)) = arr.toList.take (sa + k) ++ [x]:=by
   rw [← Nat.add_assoc,List.take_add_one,List.getElem?_set_self hs,List.take_set_of_le (Nat.le_refl _)]
   rfl
  have e2 : (arr.toList.set (sa + k) x).drop (sa + (k + 1) + l.length) = arr.toList.drop (sa + k + (x :: l).length):=by
   rw [List.drop_set_of_lt (by omega),List.length_cons]
   congr 1; omega
  rw [e1,e2,List.append_assoc,List.append_assoc,List.append_assoc]
  rfl
section
variable {prog : Program} {w : World} {A : Around} {E : Value→Shared→Prop} {s : Shared} {κ : SortKind} {a₀ : Array Keyed} {key : Keyed→Int}
theorem pO {a : Array Keyed} {i : Nat} : kk key a i = (a.toList[i]?.map key).getD 0:=by unfold kk; rw [Array.getElem?_toList]
theorem eQ {a : Array Keyed} {i j k : Nat} (h : k < j - i) : kk key (a.extract i j) k = kk key a (i + k):=by
 rw [pO,pO,dL,List.getElem?_take,if_pos h,List.getElem?_drop]
def SR (κ : SortKind) (a₀ : Array Keyed) (key : Keyed→Int) (lo : Nat) (st : SortSt) : Prop:=∃ pd,SQ κ a₀ pd st∧Runs key (arrOf st) pd.toList 0 lo∧lo ≤ a₀.size
theorem aC0 {a a' : Array Keyed} {out : List Keyed} {sa k sb k2 e : Nat} (h1 : sa + k ≤ sb) (h2 : sb + k2 ≤ e) (he : e ≤ a.size) (hl : out.length = sb + k2 - (sa + k)) (wl : a'.toList = a.toList.take (sa + k) ++ out ++ a.toList.drop (sb + k2))
  (s1 : So key a sa sb) (s2 : So key a sb e) (so : out.Pairwise fun x y=>key x ≤ key y) {b t : Int} (g1 : ∀ i,sa ≤ i→i < sa + k→kk key a i ≤ b) (g2 : ∀ i,sb + k2 ≤ i→i < e→t ≤ kk key a i) (go : ∀ x∈out,b ≤ key x∧key x ≤ t) (gb : ∀ i,sb + k2 ≤ i→i < e→b ≤ kk key a i) :
  So key a' sa e∧Out a a' sa e:=by
 have tl : (a.toList.take (sa + k)).length = sa + k:=by rw [List.length_take,Array.length_toList]; omega
 have p1 : ∀ i,i < sa + k→a'[i]? = a[i]?:=fun i hi=>by
  rw [← Array.getElem?_toList,wl,List.append_assoc,List.getElem?_append_left (by rw [tl]; exact hi),List.getElem?_take,if_pos hi,Array.getElem?_toList]
 have p3 : ∀ i,sb + k2 ≤ i→a'[i]? = a[i]?:=fun i hi=>by
  rw [← Array.getElem?_toList,wl,List.getElem?_append_right (by rw [List.length_append,tl,hl]; omega),List.length_append,tl,hl,List.getElem?_drop,Array.getElem?_toList]
  congr 1; omega
 have p2 : ∀ i,sa + k ≤ i→i < sb + k2→∃ h : i - (sa + k) < out.length,kk key a' i = key out[i - (sa + k)]:=fun i hi hi'=>by
  have hh : i - (sa + k) < out.length:=by omega
  refine ⟨hh,?_⟩
  rw [pO,wl,List.append_assoc,List.getElem?_append_right (by rw [tl]; exact hi),tl,List.getElem?_append_left hh,List.getElem?_eq_getElem hh]; rfl
 refine ⟨fun i j hi hij hj=>?_,fun i hi=>?_⟩
 ·by_cases c1 : i < sa + k
  ·rw [eD (p1 i c1)]
   by_cases c2 : j < sa + k
   ·rw [eD (p1 j c2)]; exact s1 i j hi hij (by omega)
   ·have:=g1 i hi c1
    by_cases c3 : j < sb + k2
    ·obtain ⟨hh,e⟩:=p2 j (by omega) c3
     have:=(go _ (List.getElem_mem hh)).1
     rw [e]; omega
    ·rw [eD (p3 j (by omega))]
     have:=gb j (by omega) hj
     omega
  ·by_cases c2 : i < sb + k2
   ·obtain ⟨hh,ei⟩:=p2 i (by omega) c2
    rw [ei]
    by_cases c3 : j < sb + k2
    ·obtain ⟨hh',ej⟩:=p2 j (by omega) c3
     rw [ej]
     by_cases c4 : i = j
     ·subst c4; exact Int.le_refl _
     ·exact List.pairwise_iff_getElem.mp so _ _ hh hh' (by omega)
    ·rw [eD (p3 j (by omega))]
     have:=(go _ (List.getElem_mem hh)).2
     have:=g2 j (by omega) hj
     omega
   ·rw [eD (p3 i (by omega)),eD (p3 j (by omega))]
    exact s2 i j (by omega) hij hj
 ·rcases hi with hi | hi
  ·exact p1 i (by omega)
  ·exact p3 i (by omega)
theorem iU {st : SortSt} {i lo : Nat} {Q : Bool→SortSt→Prop} (hC : Cmp prog w A s κ a₀ key) (hB : SR κ a₀ key lo st) (hi : i + 1 < (pendingOf st).size) (h : ∀ st',SR κ a₀ key lo st'→Out (arrOf st) (arrOf st') 0 lo→(pendingOf st').size + 1 = (pendingOf st).size→Q true st') : wpS (model prog w) A E s (mergeAt' i) Q st:=by
 obtain ⟨pd,hq,hr,hlo⟩:=hB
 rw [hq.pend] at hi h
 rw [vM]
 refine wpS_bind (wpS_get ?_)
 have e1 : pd[i]? = some pd[i]:=getElem?_pos pd i (by omega)
 have e2 : pd[i + 1]? = some pd[i + 1]:=getElem?_pos pd (i + 1) hi
 obtain ⟨_,a1,a2,a3,a4,b1,b2,a5⟩:=hr.two (i:=i) (x:=pd[i]) (y:=pd[i + 1]) (by simpa using e1) (by simpa using e2)
 rw [hq.pend,e1,e2]
 revert a1 a2 a3 a4 a5 b1 b2
 generalize pd[i] = x
 generalize pd[i + 1] = y
 obtain ⟨sa,na,pw⟩:=x
 obtain ⟨sb,nb,pw2⟩:=y
 intro a1 a2 a3 a4 b1 b2 a5
 dsimp only at a1 a2 a3 a4 a5 b1 b2 ⊢
 obtain ⟨pd',hpd'⟩ : ∃ pd',pd' = (pd.setIfInBounds i (sa,na + nb,pw)).eraseIdxIfInBounds (i + 1):=⟨_,rfl⟩
 have hps : pd'.size + 1 = pd.size:=by
  rw [hpd',← Array.length_toList,Array.toList_eraseIdxIfInBounds,Array.toList_setIfInBounds,List.length_eraseIdx,List.length_set,if_pos (by simpa using hi),Array.length_toList]
  omega
 have hr' : ∀ a',Out (arrOf st) a' sa (sb + nb)→So key a' sa (sb + nb)→Runs key a' pd'.toList 0 lo:=by
  intro a' o so
  rw [hpd',Array.toList_eraseIdxIfInBounds,Array.toList_setIfInBounds]
  exact a5 pw a' o so
 refine wpS_bind (aCZ ?_)
 rw [← hpd']
 have hq1 : SM κ (arrOf st) pd' (setPending st pd'):=⟨rfl,hq.kind,hq.failed,rfl⟩
 have hsz:=hq.size
 have hin : ∀ x∈(arrOf st).toList,x∈a₀.toList:=fun x hx=>(Array.perm_iff_toList_perm.mp hq.perm).mem_iff.mp hx
 have fin : ∀ st',SM κ (arrOf st) pd' st'→So key (arrOf st) sa (sb + nb)→Q true st':=fun st' m so=>h st' ⟨pd',⟨by rw [m.arr]; exact hq.perm,m.kind,m.failed,m.pend⟩,by rw [m.arr]; exact hr' _ Out.refl so,hlo⟩ (by rw [m.arr]; exact Out.refl) (by rw [m.pend]; exact hps)
 refine wpS_bind (bJ (getElem?_pos (arrOf st) sb (by omega)) ?_)
 refine wpS_bind (eG hC hq1.kind (hin _ (by simp)) hin (by omega) (by omega) (by rw [a1]; exact b1) fun k hk q1 q2=>?_)
 rw [← cG (key:=key) (a:=arrOf st) (i:=sb) (by omega)] at q1 q2
 simp only [thr,Bool.false_eq_true,if_false] at q1 q2
 dsimp only
 by_cases f1 : (na - k == 0) = true
 ·rw [if_pos f1]
  have g1 : na - k = 0:=by simpa using f1
  refine wpS_pure (fin _ hq1 fun i j h1 h2 h3=>?_)
  by_cases c1 : j < sb
  ·exact b1 i j h1 h2 c1
  ·by_cases c2 : i < sb
   ·have:=q1 (i - sa) (by omega)
    rw [show sa + (i - sa) = i by omega] at this
    have:=b2 sb j (by omega) (by omega) h3
    omega
   ·exact b2 i j (by omega) h2 h3
 rw [if_neg f1]
 have g1 : ¬ (na - k = 0):=by simpa using f1
 have el : sa + k + (na - k) - 1 = sb - 1:=by omega
 rw [el]
 refine wpS_bind (bJ (getElem?_pos (arrOf st) (sb - 1) (by omega)) ?_)
 refine wpS_bind (eG hC hq1.kind (hin _ (by simp)) hin (by omega) (by omega) b2 fun k2 hk2 q3 q4=>?_)
 rw [← cG (key:=key) (a:=arrOf st) (i:=sb - 1) (by omega)] at q3 q4
 simp only [thr,if_true] at q3 q4
 dsimp only
 by_cases f2 : (k2 == 0) = true
 ·rw [if_pos f2]
  have g2 : k2 = 0:=by simpa using f2
  refine wpS_pure (fin _ hq1 fun i j h1 h2 h3=>?_)
  by_cases c1 : j < sb
  ·exact b1 i j h1 h2 c1
  ·by_cases c2 : i < sb
   ·have:=q4 (j - sb) (by omega) (by omega)
    rw [show sb + (j - sb) = j by omega] at this
    have:=b1 i (sb - 1) h1 (by omega) (by omega)
    omega
   ·exact b2 i j (by omega) h2 h3
 rw [if_neg f2]
 have g2 : ¬ (k2 = 0):=by simpa using f2
 have sx : ((arrOf st).extract (sa + k) sb).size = sb - (sa + k):=by rw [Array.size_extract]; omega
 have sy : ((arrOf st).extract sb (sb + k2)).size = k2:=by rw [Array.size_extract]; omega
 have T : Two key a₀ ((arrOf st).extract (sa + k) sb) ((arrOf st).extract sb (sb + k2)):=by
  refine ⟨fun x hx=>hin x (by rw [dL] at hx; exact List.mem_of_mem_drop (List.mem_of_mem_take hx)),fun x hx=>hin x (by rw [dL] at hx; exact List.mem_of_mem_drop (List.mem_of_mem_take hx)),by omega,by omega,fun i j h1 h2 h3=>?_,fun i j h1 h2 h3=>?_,?_,fun i hi=>?_⟩
  ·rw [sx] at h3
   rw [eQ (by omega),eQ (by omega)]
   exact b1 _ _ (by omega) (by omega) (by omega)
  ·rw [sy] at h3
   rw [eQ (by omega),eQ (by omega)]
   exact b2 _ _ (by omega) (by omega) (by omega)
  ·rw [eQ (by omega),eQ (by omega)]
   have:=q2 k (by omega) (by omega)
   rw [Nat.add_zero,Nat.add_zero]
   omega
  ·rw [sy] at hi
   rw [sx,eQ (by omega),eQ (by omega)]
   have:=q3 i hi
   rw [show sa + k + (sb - (sa + k) - 1) = sb - 1 by omega]
   omega
 have last : ∀ (out : Array Keyed) (st' : SortSt),Fi key ((arrOf st).extract (sa + k) sb) ((arrOf st).extract sb (sb + k2)) out→SM κ (arrOf st) pd' st'→wpS (model prog w) A E s (do
   modify fun s=>setArr s (out.toList.zipIdx.foldl (fun a (p,j)=>a.setIfInBounds (sa + k + j) p) (arrOf s))
   return (failedOf (← get)).isNone) Q st':=by
  intro out st' hF m
  obtain ⟨hp,so⟩:=hF
  refine wpS_bind (wpS_modify ?_)
  refine wpS_bind (wpS_get (wpS_pure ?_))
  have osz : out.toList.length = sb - (sa + k) + k2:=by
   rw [Array.length_toList,hp.size_eq,Array.size_append,sx,sy]
  have wl:=oO (sa:=sa + k) out.toList 0 (arrOf st') (by rw [m.arr,osz]; omega)
  have e3 : sa + k + (sb - (sa + k) + k2) = sb + k2:=by omega
  rw [m.arr,osz,Nat.add_zero,e3] at wl
  have hp':=Array.perm_iff_toList_perm.mp hp
  rw [Array.toList_append] at hp'
  have pm : (out.toList.zipIdx.foldl (fun a (p,j)=>a.setIfInBounds (sa + k + j) p) (arrOf st)).Perm (arrOf st):=by
   rw [Array.perm_iff_toList_perm]
   refine (List.Perm.of_eq wl).trans ?_
   rw [dL,dL] at hp'
   refine ((hp'.append_left _).append_right _).trans ?_
   have e1 : (arrOf st).toList.drop (sa + k) = ((arrOf st).toList.drop (sa + k)).take (sb - (sa + k)) ++ (arrOf st).toList.drop sb:=tJ (by omega)
   have e2 : (arrOf st).toList.drop sb = ((arrOf st).toList.drop sb).take (sb + k2 - sb) ++ (arrOf st).toList.drop (sb + k2):=tJ (by omega)
   refine List.Perm.of_eq ?_
   conv=>rhs; rw [← List.take_append_drop (sa + k) (arrOf st).toList,e1,e2]
   simp only [List.append_assoc]
  have hf : (failedOf st').isNone = true:=by rw [m.failed]; rfl
  show Q (failedOf st').isNone _
  rw [hf]
  have go : ∀ x∈out.toList,kk key (arrOf st) sb ≤ key x∧key x ≤ kk key (arrOf st) (sb - 1):=by
   intro x hx
   rcases List.mem_append.mp (hp'.mem_iff.mp hx) with z | z
   ·obtain ⟨n,hn,rfl⟩:=List.mem_iff_getElem.mp z
    rw [Array.length_toList] at hn
    have e : key (((arrOf st).extract (sa + k) sb).toList[n]'(by rw [Array.length_toList]; exact hn)) = kk key (arrOf st) (sa + k + n):=by
     rw [← eQ (i:=sa + k) (j:=sb) (by omega),cG hn,Array.getElem_toList]
    rw [e]
    have h1:=q2 (k + n) (by omega) (by omega)
    rw [← Nat.add_assoc] at h1
    have h2:=b1 (sa + k + n) (sb - 1) (by omega) (by omega) (by omega)
    omega
   ·obtain ⟨n,hn,rfl⟩:=List.mem_iff_getElem.mp z
    rw [Array.length_toList] at hn
    have e : key (((arrOf st).extract sb (sb + k2)).toList[n]'(by rw [Array.length_toList]; exact hn)) = kk key (arrOf st) (sb + n):=by
     rw [← eQ (i:=sb) (j:=sb + k2) (by omega),cG hn,Array.getElem_toList]
    rw [e]
    have h1:=q3 n (by omega)
    have h2:=b2 sb (sb + n) (by omega) (by omega) (by omega)
    omega
  have bk:=aC0 (key:=key) (a:=arrOf st) (a':=out.toList.zipIdx.foldl (fun a (p,j)=>a.setIfInBounds (sa + k + j) p) (arrOf st)) (out:=out.toList) (sa:=sa) (k:=k) (sb:=sb) (k2:=k2) (e:=sb + nb) (by omega) (by omega) (by omega) (by omega) wl b1 b2 so (b:=kk key (arrOf st) sb) (t:=kk key (arrOf st) (sb - 1))
   (fun i h1 h2=>by have:=q1 (i - sa) (by omega); rw [show sa + (i - sa) = i by omega] at this; omega) (fun i h1 h2=>by have:=q4 (i - sb) (by omega) (by omega); rw [show sb + (i - sb) = i by omega] at this; omega) go (fun i h1 h2=>b2 sb i (by omega) (by omega) h2)
  have ea : arrOf (setArr st' (out.toList.zipIdx.foldl (fun a (p,j)=>a.setIfInBounds (sa + k + j) p) (arrOf st'))) = out.toList.zipIdx.foldl (fun a (p,j)=>a.setIfInBounds (sa + k + j) p) (arrOf st):=by rw [m.arr]
  refine h _ ⟨pd',⟨by rw [ea]; exact pm.trans hq.perm,m.kind,m.failed,m.pend⟩,by rw [ea]; exact hr' _ bk.2 bk.1,hlo⟩ (by rw [ea]; exact bk.2.wide (by omega) (by omega)) (by show (pendingOf st').size + 1 = _; rw [m.pend]; exact hps)
 by_cases f3 : na - k ≤ k2
 ·rw [if_pos f3]
  exact wpS_bind (vJ hC hq1 T fun out st' hp m=>last out st' hp m)
 ·rw [if_neg f3]
  exact wpS_bind (vL hC hq1 T fun out st' hp m=>last out st' hp m)
end
end PyProof.Rows
namespace PyProof.Rows
open PySem
section
variable {prog : Program} {w : World} {A : Around} {E : Value→Shared→Prop} {s : Shared} {κ : SortKind} {a₀ : Array Keyed} {key : Keyed→Int}
theorem vN {c : Prop} [Decidable c] {x : Nat} : (if c then x - 1 else x) ≤ x:=by split <;> omega
theorem SR.pw {lo : Nat} {st : SortSt} (h : SR κ a₀ key lo st) (i p : Nat) : SR κ a₀ key lo (setPending st ((pendingOf st).modify i fun r=>(r.1,r.2.1,p))):=by
 obtain ⟨pd,hq,hr,hl⟩:=h
 refine ⟨_,⟨hq.perm,hq.kind,hq.failed,rfl⟩,?_,hl⟩
 show Runs key (arrOf st) ((pendingOf st).modify i fun r=>(r.1,r.2.1,p)).toList 0 lo
 rw [hq.pend,Array.toList_modify]
 exact hr.pw i p
theorem SR.push {lo n : Nat} {st : SortSt} (h : SR κ a₀ key lo st) (h1 : 1 ≤ n) (hn : lo + n ≤ a₀.size) (so : So key (arrOf st) lo (lo + n)) : SR κ a₀ key (lo + n) (setPending st ((pendingOf st).push (lo,n,0))):=by
 obtain ⟨pd,hq,hr,hl⟩:=h
 refine ⟨_,⟨hq.perm,hq.kind,hq.failed,rfl⟩,?_,hn⟩
 show Runs key (arrOf st) ((pendingOf st).push (lo,n,0)).toList 0 (lo + n)
 rw [hq.pend,Array.toList_push]
 exact hr.push h1 so
theorem aAD {st : SortSt} {Q : Unit→SortSt→Prop} (hC : Cmp prog w A s κ a₀ key) (hp : (arrOf st).Perm a₀) (hk : kindOf st = κ) (hf : failedOf st = none) (hpd : pendingOf st = #[])
  (h : ∀ st',(arrOf st').Perm a₀→failedOf st' = none→So key (arrOf st') 0 a₀.size→Q () st') : wpS (model prog w) A E s sortRuns' Q st:=by
 have h0 : SR κ a₀ key 0 st:=⟨#[],⟨hp,hk,hf,hpd⟩,rfl,Nat.zero_le _⟩
 have hsz : (arrOf st).size = a₀.size:=hp.size_eq
 rw [sortRuns'_eq]
 refine wpS_bind (wpS_get ?_)
 dsimp only
 rw [hsz]
 refine wpS_bind (wpS_mono (wpS_forRange (I:=fun i c st'=>∃ lo,c = (none,lo)∧SR κ a₀ key lo st'∧i ≤ lo) (Q:=fun c st'=>∃ lo,c = (none,lo)∧SR κ a₀ key lo st'∧a₀.size ≤ lo) ?_ (fun c st' ⟨lo,a,b,c⟩=>⟨lo,a,b,by omega⟩) ⟨0,rfl,h0,by omega⟩) ?_)
 ·rintro i c st1 _ _ ⟨lo,rfl,hR,hil⟩
  by_cases e1 : lo ≥ a₀.size
  ·dsimp only
   rw [if_pos e1]; exact wpS_pure ⟨lo,rfl,hR,e1⟩
  have hlo : lo < a₀.size:=by omega
  obtain ⟨pd,hq,hr,hl⟩:=hR
  dsimp only
  rw [if_neg e1]
  refine wpS_bind (aAC hC (by omega) (by omega) hq fun n st2 hq2 n1 n2 so ou=>?_)
  have hr2 : Runs key (arrOf st2) pd.toList 0 lo:=hr.keep fun i _ h2=>ou i (.inl h2)
  dsimp only
  by_cases hm : n < minRun' a₀.size a₀.size 0
  ·rw [if_pos hm]
   refine wpS_bind (wpS_lift (wpAny_rule ⟨rfl,?_⟩))
   refine wpS_bind (aCV hC (by omega) (by omega) hq2 so fun st3 hq3 so3 ou3=>?_)
   simp only [Bool.not_true,Bool.false_eq_true,if_false]
   have hR3 : SR κ a₀ key lo st3:=⟨pd,hq3,hr2.keep fun i _ h2=>ou3 i (.inl h2),hl⟩
   refine wpS_bind (wpS_get ?_)
   cases hb : (pendingOf st3).back? with
   | none =>
    dsimp only
    exact wpS_bind (wpS_modify (wpS_pure ⟨_,rfl,SR.push hR3 (by omega) (by omega) so3,by omega⟩))
   | some r =>
    obtain ⟨s1,n1',pw1⟩:=r
    dsimp only
    refine wpS_bind (wpS_mono (wpS_forRange (I:=fun _ c st'=>c = (none,())∧SR κ a₀ key lo st'∧So key (arrOf st') lo (lo + min (a₀.size - lo) (minRun' a₀.size a₀.size 0))) (Q:=fun c st'=>c = (none,())∧SR κ a₀ key lo st'∧So key (arrOf st') lo (lo + min (a₀.size - lo) (minRun' a₀.size a₀.size 0))) ?_ (fun c st' hh=>hh) ⟨rfl,hR3,so3⟩) ?_)
    ·rintro x c st4 _ _ ⟨rfl,hR4,so4⟩
     refine wpS_bind (wpS_get ?_)
     by_cases hs : (pendingOf st4).size > 1
     ·rw [if_pos hs,getElem?_pos (pendingOf st4) ((pendingOf st4).size - 2) (by omega)]
      generalize (pendingOf st4)[(pendingOf st4).size - 2] = r4
      obtain ⟨_,_,older⟩:=r4
      dsimp only
      split
      ·exact wpS_pure ⟨rfl,hR4,so4⟩
      ·refine wpS_bind (iU hC hR4 (by omega) fun st5 hR5 ou _=>?_)
       simp only [Bool.not_true,Bool.false_eq_true,if_false]
       exact wpS_pure ⟨rfl,hR5,so4.keep fun i h1 _=>ou i (.inr h1)⟩
     ·rw [if_neg hs]; exact wpS_pure ⟨rfl,hR4,so4⟩
    ·rintro c st4 ⟨rfl,hR4,so4⟩
     dsimp only
     exact wpS_bind (wpS_modify (wpS_bind (wpS_modify (wpS_pure ⟨_,rfl,(hR4.pw _ _).push (by omega) (by omega) so4,by omega⟩))))
  ·rw [if_neg hm]
   have hR3 : SR κ a₀ key lo st2:=⟨pd,hq2,hr2,hl⟩
   refine wpS_bind (wpS_get ?_)
   cases hb : (pendingOf st2).back? with
   | none =>
    dsimp only
    exact wpS_bind (wpS_modify (wpS_pure ⟨_,rfl,SR.push hR3 n1 (by omega) so,by omega⟩))
   | some r =>
    obtain ⟨s1,n1',pw1⟩:=r
    dsimp only
    refine wpS_bind (wpS_mono (wpS_forRange (I:=fun _ c st'=>c = (none,())∧SR κ a₀ key lo st'∧So key (arrOf st') lo (lo + n)) (Q:=fun c st'=>c = (none,())∧SR κ a₀ key lo st'∧So key (arrOf st') lo (lo + n)) ?_ (fun c st' hh=>hh) ⟨rfl,hR3,so⟩) ?_)
    ·rintro x c st4 _ _ ⟨rfl,hR4,so4⟩
     refine wpS_bind (wpS_get ?_)
     by_cases hs : (pendingOf st4).size > 1
     ·rw [if_pos hs,getElem?_pos (pendingOf st4) ((pendingOf st4).size - 2) (by omega)]
      generalize (pendingOf st4)[(pendingOf st4).size - 2] = r4
      obtain ⟨_,_,older⟩:=r4
      dsimp only
      split
      ·exact wpS_pure ⟨rfl,hR4,so4⟩
      ·refine wpS_bind (iU hC hR4 (by omega) fun st5 hR5 ou _=>?_)
       simp only [Bool.not_true,Bool.false_eq_true,if_false]
       exact wpS_pure ⟨rfl,hR5,so4.keep fun i h1 _=>ou i (.inr h1)⟩
     ·rw [if_neg hs]; exact wpS_pure ⟨rfl,hR4,so4⟩
    ·rintro c st4 ⟨rfl,hR4,so4⟩
     dsimp only
     exact wpS_bind (wpS_modify (wpS_bind (wpS_modify (wpS_pure ⟨_,rfl,(hR4.pw _ _).push n1 (by omega) so4,by omega⟩))))
 ·rintro c st1 ⟨lo,rfl,hR,hlo⟩
  dsimp only
  refine wpS_bind (wpS_mono (wpS_forRange (I:=fun i c st'=>c = (none,())∧SR κ a₀ key lo st'∧(pendingOf st').size ≤ max 1 (a₀.size - i)) (Q:=fun c st'=>c = (none,())∧SR κ a₀ key lo st'∧(pendingOf st').size ≤ 1) ?_ ?_ ⟨rfl,hR,?_⟩) ?_)
  ·rintro x c st4 _ _ ⟨rfl,hR4,hz⟩
   refine wpS_bind (wpS_get ?_)
   by_cases hs : (pendingOf st4).size ≤ 1
   ·rw [if_pos hs]; exact wpS_pure ⟨rfl,hR4,hs⟩
   rw [if_neg hs]
   refine wpS_bind (iU hC hR4 ?_ fun st5 hR5 _ hz5=>?_)
   ·exact Nat.lt_of_le_of_lt (Nat.succ_le_succ vN) (show (pendingOf st4).size - 2 + 1 < (pendingOf st4).size by omega)
   ·simp only [Bool.not_true,Bool.false_eq_true,if_false]
    exact wpS_pure ⟨rfl,hR5,by omega⟩
  ·rintro c st4 ⟨rfl,hR4,hz⟩
   exact ⟨rfl,hR4,by omega⟩
  ·obtain ⟨pd,hq,hr,hl⟩:=hR
   have:=hr.le
   rw [hq.pend]
   simp at this
   omega
  ·rintro c st4 ⟨rfl,⟨pd,hq,hr,hl⟩,hz⟩
   refine wpS_pure (h _ hq.perm hq.failed ?_)
   rw [hq.pend] at hz
   have hz' : pd.toList.length ≤ 1:=by simpa using hz
   have e : lo = a₀.size:=by omega
   subst e
   revert hz'
   revert hr
   cases pd.toList with
   | nil=>intro hr _ i j _ _ hj; have : 0 = a₀.size:=hr; omega
   | cons r rs =>
    cases rs with
    | nil=>intro hr _; obtain ⟨_,_,so,e⟩:=hr; have e : 0 + r.2.1 = a₀.size:=e; rw [← e]; exact so
    | cons r2 rs=>intro _ hz; simp at hz
end
end PyProof.Rows
namespace L2
open PySem PySem.Spec PyProof.Rows PySem.W
def fJ (h : Heap) (g : Addr→Int × Int) (vs : List Value) : Prop:=∀ v∈vs,∃ a o n t u,v = Value.ref a∧h.get? a = some o∧o.cls = .type "tuple" ∧ o.data = .seq #[.int (g a).1 t,.int (g a).2 u] n∧0 ≤ (g a).2∧(g a).2 < 64
def pk (u : Int × Int) : Int:=64 * u.1 + u.2
def kv (g : Addr→Int × Int) (v : Value) : Int:=match v with
 | .ref a=>pk (g a)
 | _=>0
theorem fJ.tups {h : Heap} {g : Addr→Int × Int} : ∀ {vs : List Value},fJ h g vs→∃ fs,KatTups h vs fs∧fs.length = vs.length∧∀ v∈fs,∃ n t,v = Value.int n t
 | [],_=>⟨[],trivial,rfl,fun v hv=>nomatch hv⟩
 | v :: vs,hp=>by
  obtain ⟨fs,k1,k2,k3⟩:=fJ.tups (vs:=vs) fun b hb=>hp b (List.mem_cons_of_mem _ hb)
  obtain ⟨a,o,n,t,u,rfl,e,c,d,_⟩:=hp v List.mem_cons_self
  refine ⟨.int (g a).1 t :: fs,KatTups.cons e c d rfl k1,by simp [k2],fun v hv=>?_⟩
  rcases List.mem_cons.mp hv with z | z
  ·exact ⟨_,t,z⟩
  ·exact k3 v z
section
variable {prog : Program} {w : World} {A : Around} {E : Value→Shared→Prop} {s : Shared} {g : Addr→Int × Int}
theorem aAE {vs : List Value} (hp : fJ s.heap g vs) : Cmp prog w A s (tuples' true) (vs.toArray.zip vs.toArray) (fun x=>kv g x.1):=by
 have mem : ∀ x∈(vs.toArray.zip vs.toArray).toList,x.1∈vs:=by
  intro x hx
  rw [Array.toList_zip] at hx
  exact (List.of_mem_zip hx).1
 intro x y hx hy Q E' q
 obtain ⟨a,o,n,t1,t2,e1,eo,_,ed,a1,a2⟩:=hp x.1 (mem x hx)
 obtain ⟨b,o',n',u1,u2,e2,eo',_,ed',b1,b2⟩:=hp y.1 (mem y hy)
 replace q : ∀ c,c = decide (kv g x.1 < kv g y.1)→Q c s:=fun c e=>e ▸ q
 rw [e1,e2] at q
 rw [e1,e2]
 replace q : ∀ c,c = decide (64 * (g a).1 + (g a).2 < 64 * (g b).1 + (g b).2)→Q c s:=q
 generalize (g a).1 = x1 at *
 generalize (g a).2 = x2 at *
 generalize (g b).1 = y1 at *
 generalize (g b).2 = y2 at *
 refine kat_lt eo ed eo' ed' (kat_cons (wpAny_eqBool_int ?_))
 by_cases h1 : x1 = y1
 ·rw [beq_iff_eq.mpr h1]
  refine kat_yes (kat_cons (wpAny_eqBool_int ?_))
  by_cases h2 : x2 = y2
  ·rw [beq_iff_eq.mpr h2]
   exact kat_yes (kat_nil (q _ (by
    have e : decide (64 * x1 + x2 < 64 * y1 + y2) = false:=decide_eq_false (by omega)
    rw [e]; rfl)))
  ·rw [beq_eq_false_iff_ne.mpr h2]
   exact kat_no (kat_one _ _ (lt_int (q _ (by congr 1; rw [eq_iff_iff]; omega))))
 ·rw [beq_eq_false_iff_ne.mpr h1]
  exact kat_no (oneLt_int (q _ (by congr 1; rw [eq_iff_iff]; omega)))
theorem aC1 {vs : List Value} : ((vs.toArray.zip vs.toArray).map (·.2)).toList = vs:=by
 rw [Array.toList_map,Array.toList_zip]
 show (vs.zip vs).map (·.2) = vs
 rw [← List.unzip_snd,List.unzip_zip_right (Nat.le_refl _)]
theorem tK : ∀ {l : List Value} {p : Value × Value},p∈l.zip l→p.2 = p.1
 | x :: l,p,h=>by
  rw [List.zip_cons_cons] at h
  rcases List.mem_cons.mp h with z | z
  ·rw [z]
  ·exact tK z
theorem oP {a : Addr} {vs : List Value} {n : Nat} {P : PySem.Fin→Shared→Prop} (ho : s.heap.get? a = some (seqObj "list" vs.toArray n)) (hp : fJ s.heap g vs) (hz : vs.length ≤ 4096)
  (h : ∀ (out : Array Value),out.toList.Perm vs→out.toList.Pairwise (fun u v=>kv g u ≤ kv g v)→P (.done (.ret .none)) { s with heap:=sortedHeap s.heap a vs out }) :
  wpAny (model prog w) A (Builtin.«list.sort» ⟨[.ref a],[]⟩) P E s:=by
 rw [list_sort_plain]
 have ha : a < s.heap.objs.size:=Heap.lt_size ho
 have hsl : vs.toArray.size ≤ sizeLine:=by rw [List.size_toArray,sizeLine_eq]; omega
 refine wpAny_bind (listItems_at ho rfl ?_)
 refine wpAny_bind (listUpdate_at ho rfl ?_ hsl (Nat.zero_le _))
 obtain ⟨e1,ho1⟩ : ∃ e1,(s.heap.update a (Obj.mapSeq fun _=>#[])).get? a = some (seqObj "list" #[] e1):=⟨_,get?_update_seq ho (fun _=>#[])⟩
 refine wpAny_bind (seqEpoch_at ho1 rfl ?_)
 refine wpAny_bind (wpAny_newTuple ?_ (by show vs.length ≤ _; rw [sizeLine_eq]; omega))
 refine wpAny_bind (wpAny_newList ?_ (Nat.zero_le _))
 refine wpAny_holding ?_
 have ho6 : (((s.heap.update a (Obj.mapSeq fun _=>#[])).push (seqObj "tuple" vs.toArray 0)).push (seqObj "list" #[] 0)).get? a = some (seqObj "list" #[] e1):=by
  rw [Heap.get?_push_ne _ _ _ (by rw [size_push',Heap.size_update]; exact Nat.ne_of_lt (Nat.lt_succ_of_lt ha)),Heap.get?_push_ne _ _ _ (by rw [Heap.size_update]; exact Nat.ne_of_lt ha)]
  exact ho1
 have hp6 : fJ (((s.heap.update a (Obj.mapSeq fun _=>#[])).push (seqObj "tuple" vs.toArray 0)).push (seqObj "list" #[] 0)) g vs:=by
  intro v hv
  obtain ⟨b,o,n,t,u,ev,e,c,d⟩:=hp v hv
  have hb : b < s.heap.objs.size:=Heap.lt_size e
  have hne : b ≠ a:=by
   rintro rfl
   rw [ho] at e; cases e
   exact absurd (Value.type.inj c) (by decide)
  refine ⟨b,o,n,t,u,ev,?_,c,d⟩
  rw [Heap.get?_push_ne _ _ _ (by rw [size_push',Heap.size_update]; exact Nat.ne_of_lt (Nat.lt_succ_of_lt hb)),Heap.get?_push_ne _ _ _ (by rw [Heap.size_update]; exact Nat.ne_of_lt hb),Heap.get?_update_ne _ _ _ _ hne]
  exact e
 show wpAny (model prog w) A _ P E { s with heap:=((s.heap.update a (Obj.mapSeq fun _=>#[])).push (seqObj "tuple" vs.toArray 0)).push (seqObj "list" #[] 0) }
 dsimp only
 have fin : ∀ st' : SortSt,(arrOf st').Perm (vs.toArray.zip vs.toArray)→So (fun x=>kv g x.1) (arrOf st') 0 (arrOf st').size→P (.done (.ret .none)) { s with heap:=sortedHeap s.heap a vs ((arrOf st').map (·.2)) }:=by
  intro st' hpm so
  refine h _ ?_ ?_
  ·have:=(Array.perm_iff_toList_perm.mp hpm).map (·.2)
   rw [← Array.toList_map,← Array.toList_map,aC1] at this
   exact this
  ·have same : ∀ p∈(arrOf st').toList,p.2 = p.1:=by
    intro p hp
    have:=(Array.perm_iff_toList_perm.mp hpm).mem_iff.mp hp
    rw [Array.toList_zip] at this
    exact tK this
   rw [Array.toList_map,List.pairwise_map]
   refine List.pairwise_iff_getElem.mpr fun i j hi hj hij=>?_
   rw [same _ (List.getElem_mem hi),same _ (List.getElem_mem hj)]
   have:=so i j (by omega) (by omega) (by simpa using hj)
   rw [cG (by simpa using hi),cG (by simpa using hj)] at this
   simpa using this
 have zsz : (vs.toArray.zip vs.toArray).size = vs.length:=by simp
 by_cases h2 : vs.toArray.size < 2
 ·rw [if_pos h2,if_pos h2]
  refine wpAny_bind (wpAny_pure ?_)
  rw [StateT.run_pure]
  refine wpAny_bind (wpAny_pure ?_)
  dsimp only
  refine wpAny_bind (seqEpoch_at ho6 rfl ?_)
  refine wpAny_bind (listUpdate_at ho6 rfl ?_ (Nat.zero_le _) (by show ((vs.toArray.zip vs.toArray).map (·.2)).size ≤ _; rw [Array.size_map,zsz,sizeLine_eq]; omega))
  simp only [bne_self_eq_false,Bool.false_eq_true,if_false]
  exact wpAny_pure (fin (SortSt.mk' general' (vs.toArray.zip vs.toArray) #[] 7 none) (Array.Perm.refl _) fun i j _ h3 h4=>by
   have h4 : j < (vs.toArray.zip vs.toArray).size:=h4
   rw [zsz] at h4
   rw [List.size_toArray] at h2
   rw [show i = j by omega]
   exact Int.le_refl _)
 ·rw [if_neg h2,if_neg h2]
  have hlen : 2 ≤ vs.length:=by rw [List.size_toArray] at h2; omega
  obtain ⟨fs,k1,k2,k3⟩:=hp6.tups
  refine wpAny_bind (kat_kind (T:=.type "int") k1 (by omega) (fun v hv=>?_) rfl ?_)
  ·obtain ⟨m,t,rfl⟩:=k3 v hv
   exact .now
  refine wpAny_bind (wpAny_mono (aAD (a₀:=vs.toArray.zip vs.toArray) (κ:=tuples' true) (st:=SortSt.mk' (tuples' true) (vs.toArray.zip vs.toArray) #[] 7 none)
   (Q:=fun _ st'=>(arrOf st').Perm (vs.toArray.zip vs.toArray)∧failedOf st' = none∧So (fun x=>kv g x.1) (arrOf st') 0 (vs.toArray.zip vs.toArray).size) (aAE hp6) (Array.Perm.refl _) rfl rfl rfl fun st' b1 b2 b3=>⟨b1,b2,b3⟩) ?_ fun _ _ e=>e)
  rintro ⟨⟨⟩,st'⟩ s' ⟨rfl,hpm,hf,so⟩
  dsimp only
  refine wpAny_bind (seqEpoch_at ho6 rfl ?_)
  refine wpAny_bind (listUpdate_at ho6 rfl ?_ (Nat.zero_le _) (by refine Nat.le_trans (Nat.le_of_eq ((Array.size_map ..).trans (hpm.size_eq.trans zsz))) ?_; rw [sizeLine_eq]; omega))
  rw [hf]
  simp only [bne_self_eq_false,Bool.false_eq_true,if_false]
  exact wpAny_pure (fin st' hpm (by rw [hpm.size_eq]; exact so))
theorem tO {l : Addr} {vs : List Value} {Q : Value→Shared→Prop} (hl : s.heap.IsList l vs.toArray) (hp : fJ s.heap g vs) (hz : vs.length ≤ 4096)
  (h : ∀ (out : Array Value),out.toList.Perm vs→out.toList.Pairwise (fun u v=>kv g u ≤ kv g v)→Q (.ref (s.heap.objs.size + 1)) { s with heap:=sortedAll s.heap vs out }) :
  wpAny (model prog w) A (call (.builtin "sorted") [.ref l]) Q E s:=by
 have hsl : vs.length ≤ sizeLine:=by rw [sizeLine_eq]; omega
 refine Calls.call_function_entry kind_sorted plain_sorted entry_sorted (args_sorted1 _) ?_
 unfold Builtin.«sorted»
 refine wpAny_bind (m:=checkCount "sorted" 1 1 _) (wpAny_pure ?_)
 refine wpAny_bind (collect_list hl ?_ hsl)
 refine wpAny_bind (wpAny_newList ?_ hsl)
 have hsz : ((s.heap.push (seqObj "list" #[] 0)).update s.heap.objs.size (Obj.mapSeq (· ++ vs.toArray))).objs.size = s.heap.objs.size + 1:=by
  rw [Heap.size_update,size_push']
 have hoL : (((s.heap.push (seqObj "list" #[] 0)).update s.heap.objs.size (Obj.mapSeq (· ++ vs.toArray))).push (seqObj "list" vs.toArray 0)).get? (s.heap.objs.size + 1) = some (seqObj "list" vs.toArray 0):=by
  rw [← hsz]; exact Heap.get?_push_size _ rfl
 have hp2 : fJ (((s.heap.push (seqObj "list" #[] 0)).update s.heap.objs.size (Obj.mapSeq (· ++ vs.toArray))).push (seqObj "list" vs.toArray 0)) g vs:=by
  intro v hv
  obtain ⟨b,o,n,t,u,ev,e,c,d⟩:=hp v hv
  have hb : b < s.heap.objs.size:=Heap.lt_size e
  refine ⟨b,o,n,t,u,ev,?_,c,d⟩
  rw [Heap.get?_push_ne _ _ _ (by rw [hsz]; exact Nat.ne_of_lt (Nat.lt_succ_of_lt hb)),Heap.get?_update_ne _ _ _ _ (Nat.ne_of_lt hb),Heap.get?_push_ne _ _ _ (Nat.ne_of_lt hb)]
  exact e
 show wpAny _ _ _ _ _ { s with heap:=((s.heap.push (seqObj "list" #[] 0)).update s.heap.objs.size (Obj.mapSeq (· ++ vs.toArray))).push (seqObj "list" vs.toArray 0) }
 rw [hsz]
 refine wpAny_bind (wpAny_holding (wpAny_call_entry slot_list_sort ⟨_,hoL,rfl⟩ entry_list_sort (oP hoL hp2 hz fun out a1 a2=>⟨_,rfl,?_⟩) (args_list_sort _)))
 exact wpAny_pure ⟨_,rfl,h out a1 a2⟩
end
theorem jY : ∀ {as : List Addr} {its : List Value},Vals (as.map V.ref) its→its = as.map Value.ref
 | [],_,r=>by cases r; rfl
 | a :: as,_,r=>by
  cases r with
  | cons r rr =>
   obtain rfl:=(show _ = Value.ref a from r)
   rw [jY rr]; rfl
theorem rE : ∀ {as : List Addr},Vals (as.map V.ref) (as.map Value.ref)
 | []=>.nil
 | _ :: _=>.cons rfl rE
theorem aAF {as : List Addr} {vs : List Value} (h : vs.Perm (as.map Value.ref)) : ∃ as' : List Addr,vs = as'.map Value.ref∧as'.Perm as:=by
 let un : Value→Addr:=fun v=>match v with | .ref a=>a | _=>0
 refine ⟨vs.map un,?_,?_⟩
 ·rw [List.map_map]
  have : ∀ v∈vs,(Value.ref ∘ un) v = v:=by
   intro v hv
   obtain ⟨a,_,rfl⟩:=List.mem_map.mp (h.mem_iff.mp hv)
   rfl
  conv=>lhs; rw [← List.map_id vs]
  exact List.map_congr_left fun v hv=>(this v hv).symm
 ·have:=h.map un
  rw [List.map_map] at this
  have e : as.map (un ∘ Value.ref) = as:=by
   conv=>rhs; rw [← List.map_id as]
   exact List.map_congr_left fun a _=>rfl
  rw [e] at this
  exact this
def aAG (K : W.Frag) : List V→Hp→VK→Prop:=fun xs H Q=>∃ (l : Addr) (as : List Addr) (g : Addr→Int × Int),xs = [.ref l]∧SqL K H l (as.map V.ref)∧(∀ a∈as,SqT K H a [.int (g a).1,.int (g a).2]∧0 ≤ (g a).2∧(g a).2 < 64)∧as.length ≤ 4096 ∧
 ∀ (D : Addr) (as' : List Addr),H D = none→as'.Perm as→as'.Pairwise (fun a b=>pk (g a) ≤ pk (g b))→Q (.ref D) (upd H D (.lst (as'.map V.ref)))
theorem yJ {X : Cx} : cK X (.builtin "sorted") (aAG X.K):=by
 intro pins s σ H xs us Q I r h
 obtain ⟨l,as,g,rfl,hl,hp,hz,q⟩:=h
 obtain ⟨u1,rfl,r1⟩:=r.one
 obtain rfl : u1 = Value.ref l:=r1
 obtain ⟨its,rv,pl,_⟩:=I.list hl
 have hits:=jY rv
 subst hits
 have hpv : fJ s.heap g (as.map Value.ref):=by
  intro v hv
  obtain ⟨a,ha,rfl⟩:=List.mem_map.mp hv
  obtain ⟨hxy,b1,b2⟩:=hp a ha
  obtain ⟨its,r,⟨o,e,c,n,d⟩,_⟩:=I.tuple hxy
  obtain ⟨u1,u2,rfl,r1,r2⟩:=r.two
  obtain ⟨t,rfl⟩:=r1
  obtain ⟨t',rfl⟩:=r2
  exact ⟨a,o,n,t,t',rfl,e,c,d,b1,b2⟩
 refine tO pl.isList hpv (by rw [List.length_map]; exact hz) fun out hperm hord=>?_
 obtain ⟨as',eo,pa⟩:=aAF hperm
 have hout : out = (as'.map Value.ref).toArray:=by rw [← eo]
 subst hout
 have ho : as'.Pairwise (fun a b=>pk (g a) ≤ pk (g b)):=by
  rw [eo,List.pairwise_map] at hord
  exact hord
 have sz1 : ((s.heap.push (seqObj "list" #[] 0)).update s.heap.objs.size (Obj.mapSeq (· ++ (as.map Value.ref).toArray))).objs.size = s.heap.objs.size + 1:=by rw [Heap.size_update,size_push']
 have k1 : ∀ b u,s.heap.get? b = some u→(((s.heap.push (seqObj "list" #[] 0)).update s.heap.objs.size (Obj.mapSeq (· ++ (as.map Value.ref).toArray))).push (seqObj "list" (as.map Value.ref).toArray 0)).get? b = some u:=fun b u e=>by
  have hb : b < s.heap.objs.size:=Heap.lt_size e
  rw [Heap.get?_push_ne _ _ _ (by rw [sz1]; exact Nat.ne_of_lt (Nat.lt_succ_of_lt hb)),Heap.get?_update_ne _ _ _ _ (Nat.ne_of_lt hb),Heap.get?_push_ne _ _ _ (Nat.ne_of_lt hb)]
  exact e
 have hoL : (((s.heap.push (seqObj "list" #[] 0)).update s.heap.objs.size (Obj.mapSeq (· ++ (as.map Value.ref).toArray))).push (seqObj "list" (as.map Value.ref).toArray 0)).get? (s.heap.objs.size + 1) = some (seqObj "list" (as.map Value.ref).toArray 0):=by
  rw [← sz1]; exact Heap.get?_push_size _ rfl
 have sz2 : (((s.heap.push (seqObj "list" #[] 0)).update s.heap.objs.size (Obj.mapSeq (· ++ (as.map Value.ref).toArray))).push (seqObj "list" (as.map Value.ref).toArray 0)).objs.size = s.heap.objs.size + 2:=by rw [size_push',sz1]
 show EP X pins σ Q (.ref (s.heap.objs.size + 1)) { s with heap:=sortedHeap (((s.heap.push (seqObj "list" #[] 0)).update s.heap.objs.size (Obj.mapSeq (· ++ (as.map Value.ref).toArray))).push (seqObj "list" (as.map Value.ref).toArray 0)) (s.heap.objs.size + 1) (as.map Value.ref) (as'.map Value.ref).toArray }
 revert k1 hoL sz2
 generalize ((s.heap.push (seqObj "list" #[] 0)).update s.heap.objs.size (Obj.mapSeq (· ++ (as.map Value.ref).toArray))).push (seqObj "list" (as.map Value.ref).toArray 0) = h1
 intro k1 hoL sz2
 obtain ⟨e1,ho1⟩ : ∃ e1,(h1.update (s.heap.objs.size + 1) (Obj.mapSeq fun _=>(#[] : Array Value))).get? (s.heap.objs.size + 1) = some (seqObj "list" #[] e1):=⟨_,get?_update_seq hoL (fun _=>#[])⟩
 have ho6 : (((h1.update (s.heap.objs.size + 1) (Obj.mapSeq fun _=>(#[] : Array Value))).push (seqObj "tuple" (as.map Value.ref).toArray 0)).push (seqObj "list" #[] 0)).get? (s.heap.objs.size + 1) = some (seqObj "list" #[] e1):=by
  rw [Heap.get?_push_ne _ _ _ (by rw [size_push',Heap.size_update,sz2]; exact Nat.ne_of_lt (Nat.lt_succ_of_lt (Nat.lt_succ_self _))),Heap.get?_push_ne _ _ _ (by rw [Heap.size_update,sz2]; exact Nat.ne_of_lt (Nat.lt_succ_self _))]
  exact ho1
 obtain ⟨e2,ho7⟩ : ∃ e2,(sortedHeap h1 (s.heap.objs.size + 1) (as.map Value.ref) (as'.map Value.ref).toArray).get? (s.heap.objs.size + 1) = some (seqObj "list" (as'.map Value.ref).toArray e2):=⟨_,get?_update_seq ho6 (fun _=>(as'.map Value.ref).toArray)⟩
 have keep : ∀ b u,s.heap.get? b = some u→(sortedHeap h1 (s.heap.objs.size + 1) (as.map Value.ref) (as'.map Value.ref).toArray).get? b = some u:=fun b u e=>by
  have hb : b < s.heap.objs.size:=Heap.lt_size e
  unfold sortedHeap
  rw [Heap.get?_update_ne _ _ _ _ (Nat.ne_of_lt (Nat.lt_succ_of_lt hb)),Heap.get?_push_ne _ _ _ (by rw [size_push',Heap.size_update,sz2]; exact Nat.ne_of_lt (Nat.lt_succ_of_lt (Nat.lt_succ_of_lt (Nat.lt_succ_of_lt hb)))),Heap.get?_push_ne _ _ _ (by rw [Heap.size_update,sz2]; exact Nat.ne_of_lt (Nat.lt_succ_of_lt (Nat.lt_succ_of_lt hb))),Heap.get?_update_ne _ _ _ _ (Nat.ne_of_lt (Nat.lt_succ_of_lt hb))]
  exact k1 b u e
 have hnone : s.heap.get? (s.heap.objs.size + 1) = none:=Heap.get?_none_of_le (by omega)
 refine ⟨.ref (s.heap.objs.size + 1),_,I.laidN (t':=s.toks) (o:=.lst (as'.map V.ref)) keep hnone ⟨?_,as'.map Value.ref,e2,rE,ho7⟩,rfl,q _ as' (I.hok.freshN hnone) pa ho⟩
 rw [List.length_map,pa.length_eq]
 exact Nat.le_trans hz (by decide)
end L2
namespace L2
open PySem PySem.Spec PyProof.Rows
theorem oQ {c : Addr} {h h' : Heap} (sb : Heap.SameBut c h h') {b : Addr} {o : Obj} (n : b ≠ c) (e : h.get? b = some o) : h'.get? b = some o:=(sb.2 b n).trans e
section
variable {prog : Program} {w : World} {A : Around} {E : Value→Shared→Prop} {s : Shared}
end
end L2
namespace L2
open PySem PySem.Spec PyProof.Rows
section
variable {prog : Program} {w : World} {A : Around} {E : Value→Shared→Prop} {s : Shared}
end
theorem Inv.turnedL {X : Cx} {pins : List (Addr × Obj)} {σ : St} {H : Hp} {s : Shared} {h' : Heap} {t' : Nat} {ch : List Addr} (I : Inv X pins σ H s) (fe : ∀ e∈ch,FpOk X pins H e) (k : ∀ b o,b ∉ ch→s.heap.get? b = some o→h'.get? b = some o) : Inv X pins σ H { s with heap:=h',toks:=t' }:=by
 have nit : ∀ b u,H b = some u→b ∉ ch:=fun b u e z=>by rw [(fe b z).1] at e; cases e
 refine I.step (g':=s.gens) (d':=s.drawn) (ch:=ch) (fun b hb=>?_) (fun b o _ _ hc e _=>k b o hc e) (fun b o _ _ hc e _=>⟨o.slots,k b o hc e⟩) (fun _ _ _ _ n=>n) (fun b o hc e=>⟨o,k b o hc e⟩) (fun _ _ e=>e) (fun _ _ _ e=>e) (fun b ps e=>⟨#[],by rw [e]; simp⟩) (fun m hm=>?_) (fun b u e=>?_) I.bare
 ·obtain ⟨_,f1,_,f3,f4,f5⟩:=fe b hb
  exact ⟨f3,f1,f4,f5⟩
 ·obtain ⟨o,es,ep,ho,r⟩:=hm
  exact ⟨o,es,ep,k _ o (fun z=>(fe _ z).2.1 rfl) ho,r⟩
 ·refine (I.hok b u e).stay (fun c v hc q=>k c v ?_ q) (fun _ q=>q) fun _ _ q=>q
  rcases hc with z | z
  ·rw [z]; exact nit b u e
  ·exact nit c _ z
theorem Inv.turnedT {X : Cx} {pins : List (Addr × Obj)} {σ : St} {H : Hp} {s : Shared} {h' : Heap} {p : Addr} {t' : Nat} {ch : List Addr} {xs : List V} {its : List Value} (I : Inv X pins σ H s) (fe : ∀ e∈ch,FpOk X pins H e)
  (k : ∀ b o,b ∉ ch→s.heap.get? b = some o→h'.get? b = some o) (hp : s.heap.objs.size ≤ p) (hl : xs.length ≤ sizeLine) (r : Vals xs its) (ht : h'.get? p = some { cls:=.type "tuple",data:=.seq its.toArray }) : Inv X pins σ (upd H p (.tup xs)) { s with heap:=h',toks:=t' }:=by
 have hn:=I.hok.fresh hp
 have ne : ∀ b o,s.heap.get? b = some o→b ≠ p:=fun b o q=>Nat.ne_of_lt (Nat.lt_of_lt_of_le (Heap.lt_size q) hp)
 have nit : ∀ b u,H b = some u→b ∉ ch:=fun b u e z=>by rw [(fe b z).1] at e; cases e
 refine I.step (g':=s.gens) (d':=s.drawn) (ch:=ch) (fun b hb=>?_) (fun b o _ _ hb q _=>k b o hb q) (fun b o _ _ hb q _=>⟨o.slots,k b o hb q⟩) (fun b o hb q n=>by rw [aH (ne b o q)]; exact n) (fun b o hb q=>⟨o,k b o hb q⟩)
  (fun b ys q=>by rw [aH (aJ q hn)]; exact q) (fun b o u q=>by rw [aH (aJ q hn)]; exact q) (fun b ps q=>⟨#[],by rw [aH (aJ q hn),q]; simp⟩) (fun m hm=>?_) (fun b o q=>?_) I.bare
 ·obtain ⟨_,f1,_,f3,f4,f5⟩:=fe b hb
  exact ⟨f3,f1,f4,f5⟩
 ·obtain ⟨o,es,ep,q,d,r'⟩:=hm
  exact ⟨o,es,ep,k _ _ (fun z=>(fe _ z).2.1 rfl) q,d,r'⟩
 ·by_cases hb : b = p
  ·subst hb
   rw [aD] at q; cases q
   exact ⟨hl,its,r,_,ht,rfl,_,rfl⟩
  ·rw [aH hb] at q
   refine (I.hok b o q).stay (fun c u hc z=>k c u ?_ z) (fun c z=>by rw [aH (aJ z hn)]; exact z) fun c ys z=>by rw [aH (aJ z hn)]; exact z
   rcases hc with rfl | hc
   ·exact nit _ _ q
   ·exact nit _ _ hc
section
variable {X : Cx}
end
end L2
namespace L2
open PySem PySem.Spec PyProof.Rows
section
variable {X : Cx}
theorem yK {s : Shared} {A : Around} {xs ys : List V} {us vs : List Value} (rx : Vals xs us) (ry : Vals ys vs) (fx : xs.all dX = true) (fy : ys.all dX = true) :
  ∀ j (h1 : j < us.toArray.size) (h2 : j < vs.toArray.size),SeqAt.EqAt A s us.toArray[j] vs.toArray[j] (eqV (xs.getD j .non) (ys.getD j .non)):=by
 intro j h1 h2
 have j1 : j < xs.length:=by rw [rx.length]; simpa using h1
 have j2 : j < ys.length:=by rw [ry.length]; simpa using h2
 have e1 : xs[j]? = some (xs.getD j .non):=by rw [List.getD_eq_getElem?_getD,List.getElem?_eq_getElem j1]; rfl
 have e2 : ys[j]? = some (ys.getD j .non):=by rw [List.getD_eq_getElem?_getD,List.getElem?_eq_getElem j2]; rfl
 obtain ⟨u,hu1,ru⟩:=rx.get e1
 obtain ⟨v,hv1,rv⟩:=ry.get e2
 have eu : us.toArray[j] = u:=by
  have : us[j]? = some us.toArray[j]:=by simp at h1 ⊢
  rw [hu1] at this; exact (Option.some.inj this).symm
 have ev : vs.toArray[j] = v:=by
  have : vs[j]? = some vs.toArray[j]:=by simp at h2 ⊢
  rw [hv1] at this; exact (Option.some.inj this).symm
 rw [eu,ev]
 exact sP ru rv (List.all_eq_true.mp fx _ (List.mem_of_getElem? e1)) (List.all_eq_true.mp fy _ (List.mem_of_getElem? e2))
theorem aBL {pins : List (Addr × Obj)} {σ : St} {H : Hp} {s : Shared} {A : Around} {a b : Addr} {xs ys : List V} (I : Inv X pins σ H s) (hu : A.units + 1 < cLine) (ha : SqT X.K H a xs) (hb : SqT X.K H b ys) (hl : xs.length = ys.length) (fx : xs.all dX = true) (fy : ys.all dX = true) :
  SeqAt.EqAt A s (.ref a) (.ref b) (dY eqV xs ys):=by
 by_cases hab : a = b
 ·subst hab
  have e1:=I.tuple_inj ha hb
  subst e1
  have e2 : dY eqV xs xs = true:=by
   clear ha hb hl fy
   induction xs with
   | nil=>rfl
   | cons x xs ih =>
    rw [List.all_cons,Bool.and_eq_true] at fx
    rw [dY,ih fx.2,Bool.and_true]
    cases x <;> first | rfl | (show (_ == _) = true; simp) | exact absurd (show false = true from fx.1) Bool.false_ne_true
  rw [e2]
  exact SeqAt.EqAt.same _
 ·obtain ⟨us,r1,p1,_⟩:=I.tuple ha
  obtain ⟨vs,r2,p2,_⟩:=I.tuple hb
  have h:=SeqAt.RcAt.tuples (A:=A) (s:=s) (l:=a) (b:=b) (e:=fun i=>eqV (xs.getD i .non) (ys.getD i .non)) (show s.heap.IsTuple a us.toArray from p1) (show s.heap.IsTuple b vs.toArray from p2) (by omega)
   (yK r1 r2 fx fy)
  refine SeqAt.EqAt.of_refs hab ?_
  have er : ((List.range (min us.toArray.size vs.toArray.size)).all (fun i=>eqV (xs.getD i .non) (ys.getD i .non)) && us.toArray.size == vs.toArray.size) = dY eqV xs ys:=by
   rw [List.size_toArray,List.size_toArray,← r1.length,← r2.length,← hl,Nat.min_self,beq_self_eq_true,Bool.and_true,iS hl]
  rw [er] at h
  exact h
theorem yL {p q : Int × Int} : dY eqV [.int p.1,.int p.2] [.int q.1,.int q.2] = decide (p = q):=by
 obtain ⟨a,b⟩:=p
 obtain ⟨c,d⟩:=q
 show ((a == c) && ((b == d) && true)) = decide ((a,b) = (c,d))
 by_cases h1 : a = c <;> by_cases h2 : b = d <;> simp [h1,h2]
def rInP (K : W.Frag) (neg : Bool) : R2:=fun x y H Q=>∃ (p l : Addr) (u : Int × Int) (as : List Addr) (ps : List (Int × Int)),x = .ref p∧y = .ref l∧SqT K H p [.int u.1,.int u.2]∧SqL K H l (as.map V.ref)∧as.length = ps.length∧(∀ i,i < ps.length→SqT K H (as.getD i 0) [.int (ps.getD i (0,0)).1,.int (ps.getD i (0,0)).2]) ∧
 Q (.bl (if neg then !decide (u∈ps) else decide (u∈ps))) H
open Classical in
theorem wO {pins : List (Addr × Obj)} {σ : St} {H : Hp} {s : Shared} (I : Inv X pins σ H s) {u : Int × Int} : ∀ {as : List Addr} {ps : List (Int × Int)},as.length = ps.length→(∀ i,i < ps.length→SqT X.K H (as.getD i 0) [.int (ps.getD i (0,0)).1,.int (ps.getD i (0,0)).2]) →
  ((as.map Value.ref).any fun v=>decide (∃ a,v = Value.ref a∧SqT X.K H a [.int u.1,.int u.2])) = decide (u∈ps)
 | [],[],_,_=>by simp
 | a :: as,p :: ps,hl,h=>by
  have ih:=wO I (u:=u) (as:=as) (ps:=ps) (by simpa using hl) (fun i hi=>h (i + 1) (by simpa using hi))
  have h0 : SqT X.K H a [.int p.1,.int p.2]:=h 0 (by simp)
  rw [List.map_cons,List.any_cons,ih]
  have e : decide (∃ b,Value.ref a = Value.ref b∧SqT X.K H b [.int u.1,.int u.2]) = decide (u = p):=by
   rw [Bool.eq_iff_iff,decide_eq_true_iff,decide_eq_true_iff]
   constructor
   ·rintro ⟨b,e,hb⟩
    cases e
    have:=I.tuple_inj h0 hb
    have e1 : p.1 = u.1:=V.int.inj (List.cons.inj this).1
    have e2 : p.2 = u.2:=V.int.inj (List.cons.inj (List.cons.inj this).2).1
    exact Prod.ext e1.symm e2.symm
   ·rintro rfl
    exact ⟨a,rfl,h0⟩
  rw [e]
  by_cases z : u = p
  ·simp [z]
  ·simp [z]
open Classical in
theorem aBM {pins : List (Addr × Obj)} {σ : St} {H : Hp} {s : Shared} {A : Around} (I : Inv X pins σ H s) (hu : A.units + 1 < cLine) {p : Addr} {u : Int × Int} (hp : SqT X.K H p [.int u.1,.int u.2]) {as : List Addr} {ps : List (Int × Int)} (hl : as.length = ps.length)
  (h : ∀ i,i < ps.length→SqT X.K H (as.getD i 0) [.int (ps.getD i (0,0)).1,.int (ps.getD i (0,0)).2]) : ∀ v∈as.map Value.ref,SeqAt.EqAt A s v (.ref p) (decide (∃ a,v = Value.ref a∧SqT X.K H a [.int u.1,.int u.2])):=by
 intro v hv
 obtain ⟨a,ha,rfl⟩:=List.mem_map.mp hv
 obtain ⟨i,hi,e⟩:=List.mem_iff_getElem.mp ha
 have hq:=h i (by omega)
 have ea : as.getD i 0 = a:=by rw [List.getD_eq_getElem?_getD,List.getElem?_eq_getElem hi]; exact e
 rw [ea] at hq
 have z:=aBL (A:=A) I hu hq hp rfl rfl rfl
 rw [yL] at z
 have e : decide (∃ b,Value.ref a = Value.ref b∧SqT X.K H b [.int u.1,.int u.2]) = decide (ps.getD i (0,0) = u):=by
  rw [Bool.eq_iff_iff,decide_eq_true_iff,decide_eq_true_iff]
  constructor
  ·rintro ⟨b,e,hb⟩
   cases e
   have:=I.tuple_inj hq hb
   exact Prod.ext (V.int.inj (List.cons.inj this).1) (V.int.inj (List.cons.inj (List.cons.inj this).2).1)
  ·intro e
   rw [← e]
   exact ⟨a,rfl,hq⟩
 rw [e]
 exact z
open Classical in
theorem aD1 (hu : X.A.units + 2 < cLine) : OpR X (compareOp .In) (rInP X.K false):=by
 intro pins s σ H x y v u Q I rx ry h
 obtain ⟨p,l,w,as,ps,rfl,rfl,hp,hl,hlen,hps,q⟩:=h
 obtain rfl : v = Value.ref p:=rx
 obtain rfl : u = Value.ref l:=ry
 obtain ⟨its,r,pl,_⟩:=I.list hl
 have e:=jY r
 subst e
 refine SeqAt.in_listAt (fun v=>decide (∃ a,v = Value.ref a∧SqT X.K H a [.int w.1,.int w.2])) pl.isList (fun y hy=>aBM I (by show X.A.units + 1 + 1 < cLine; omega) hp hlen hps y (by simpa using hy)) ⟨.bl _,H,I,rfl,?_⟩
 rw [show (as.map Value.ref).toArray.any (fun v=>decide (∃ a,v = Value.ref a∧SqT X.K H a [.int w.1,.int w.2])) = (as.map Value.ref).any (fun v=>decide (∃ a,v = Value.ref a∧SqT X.K H a [.int w.1,.int w.2])) by simp,wO I hlen hps]
 exact q
end
end L2
namespace L2
open PySem PySem.Spec PyProof.Rows PySem.W
theorem vO {h : Heap} {vs : List Value} {out : Array Value} : (∃ e,(sortedAll h vs out).get? (h.objs.size + 1) = some (seqObj "list" out e))∧∀ b u,h.get? b = some u→(sortedAll h vs out).get? b = some u:=by
 have sz1 : ((h.push (seqObj "list" #[] 0)).update h.objs.size (Obj.mapSeq (· ++ vs.toArray))).objs.size = h.objs.size + 1:=by rw [Heap.size_update,size_push']
 have k1 : ∀ b u,h.get? b = some u→(((h.push (seqObj "list" #[] 0)).update h.objs.size (Obj.mapSeq (· ++ vs.toArray))).push (seqObj "list" vs.toArray 0)).get? b = some u:=fun b u e=>by
  have hb : b < h.objs.size:=Heap.lt_size e
  rw [Heap.get?_push_ne _ _ _ (by rw [sz1]; exact Nat.ne_of_lt (Nat.lt_succ_of_lt hb)),Heap.get?_update_ne _ _ _ _ (Nat.ne_of_lt hb),Heap.get?_push_ne _ _ _ (Nat.ne_of_lt hb)]
  exact e
 have hoL : (((h.push (seqObj "list" #[] 0)).update h.objs.size (Obj.mapSeq (· ++ vs.toArray))).push (seqObj "list" vs.toArray 0)).get? (h.objs.size + 1) = some (seqObj "list" vs.toArray 0):=by
  rw [← sz1]; exact Heap.get?_push_size _ rfl
 have sz2 : (((h.push (seqObj "list" #[] 0)).update h.objs.size (Obj.mapSeq (· ++ vs.toArray))).push (seqObj "list" vs.toArray 0)).objs.size = h.objs.size + 2:=by rw [size_push',sz1]
 unfold sortedAll
 revert k1 hoL sz2
 generalize ((h.push (seqObj "list" #[] 0)).update h.objs.size (Obj.mapSeq (· ++ vs.toArray))).push (seqObj "list" vs.toArray 0) = h1
 intro k1 hoL sz2
 obtain ⟨e1,ho1⟩ : ∃ e1,(h1.update (h.objs.size + 1) (Obj.mapSeq fun _=>(#[] : Array Value))).get? (h.objs.size + 1) = some (seqObj "list" #[] e1):=⟨_,get?_update_seq hoL (fun _=>#[])⟩
 have ho6 : (((h1.update (h.objs.size + 1) (Obj.mapSeq fun _=>(#[] : Array Value))).push (seqObj "tuple" vs.toArray 0)).push (seqObj "list" #[] 0)).get? (h.objs.size + 1) = some (seqObj "list" #[] e1):=by
  rw [Heap.get?_push_ne _ _ _ (by rw [size_push',Heap.size_update,sz2]; exact Nat.ne_of_lt (Nat.lt_succ_of_lt (Nat.lt_succ_self _))),Heap.get?_push_ne _ _ _ (by rw [Heap.size_update,sz2]; exact Nat.ne_of_lt (Nat.lt_succ_self _))]
  exact ho1
 refine ⟨⟨_,get?_update_seq ho6 (fun _=>out)⟩,fun b u e=>?_⟩
 have hb : b < h.objs.size:=Heap.lt_size e
 unfold sortedHeap
 rw [Heap.get?_update_ne _ _ _ _ (Nat.ne_of_lt (Nat.lt_succ_of_lt hb)),Heap.get?_push_ne _ _ _ (by rw [size_push',Heap.size_update,sz2]; exact Nat.ne_of_lt (Nat.lt_succ_of_lt (Nat.lt_succ_of_lt (Nat.lt_succ_of_lt hb)))),Heap.get?_push_ne _ _ _ (by rw [Heap.size_update,sz2]; exact Nat.ne_of_lt (Nat.lt_succ_of_lt (Nat.lt_succ_of_lt hb))),Heap.get?_update_ne _ _ _ _ (Nat.ne_of_lt (Nat.lt_succ_of_lt hb))]
 exact k1 b u e
end L2
namespace NetM
abbrev Ts:=List (Int × Int)
def T (ts : Ts) (a b : Nat) : Prop:=(((a : Nat) : Int),((b : Nat) : Int))∈ts
instance (ts : Ts) (a b : Nat) : Decidable (T ts a b):=inferInstanceAs (Decidable (_∈_))
def Walk (ts : Ts) : Nat→Nat→Nat→Prop
 | 0,a,b=>a = b
 | k + 1,a,b=>∃ c,Walk ts k a c∧T ts c b
theorem Walk.trans {ts : Ts} {k : Nat} {a b : Nat} (h : Walk ts k a b) : ∀ {l : Nat} {c : Nat},Walk ts l b c→Walk ts (k + l) a c
 | 0,_,e=>by cases e; exact h
 | l + 1,_,⟨d,w,t⟩=>⟨d,h.trans w,t⟩
theorem Walk.one {ts : Ts} {a b : Nat} (h : T ts a b) : Walk ts 1 a b:=⟨a,rfl,h⟩
theorem Walk.cons {ts : Ts} {k a b c : Nat} (h : T ts a b) (w : Walk ts k b c) : Walk ts (k + 1) a c:=by
 have:=(Walk.one h).trans w
 rwa [Nat.add_comm] at this
def gR (ts : Ts) (a b d : Nat) : Prop:=Walk ts d a b∧∀ k,Walk ts k a b→d ≤ k
theorem gR.uniq {ts : Ts} {a b d e : Nat} (h : gR ts a b d) (g : gR ts a b e) : d = e:=Nat.le_antisymm (h.2 _ g.1) (g.2 _ h.1)
theorem aD2 {ts : Ts} {a b : Nat} : ∀ k,Walk ts k a b→∃ d,gR ts a b d:=by
 intro k
 induction k using Nat.strongRecOn with
 | ind k ih =>
  intro w
  by_cases h : ∃ j,j < k∧Walk ts j a b
  ·obtain ⟨j,hj,wj⟩:=h
   exact ih j hj wj
  ·exact ⟨k,w,fun j wj=>Classical.byContradiction fun z=>h ⟨j,by omega,wj⟩⟩
open Classical in
noncomputable def far (ts : Ts) (a b : Nat) : Nat:=if h : ∃ d,gR ts a b d then h.choose else 0
theorem oR {ts : Ts} {a b d : Nat} (h : gR ts a b d) : far ts a b = d:=by
 unfold far
 have hx : ∃ d,gR ts a b d:=⟨d,h⟩
 rw [dif_pos hx]
 exact hx.choose_spec.uniq h
theorem aD3 {ts : Ts} {a b k : Nat} (w : Walk ts k a b) : gR ts a b (far ts a b):=by
 obtain ⟨d,h⟩:=aD2 k w
 rw [oR h]; exact h
theorem tP {ts : Ts} {a : Nat} : far ts a a = 0:=oR ⟨rfl,fun k _=>Nat.zero_le _⟩
structure Fine (n : Nat) (ts : Ts) : Prop where
 n1 : 2 ≤ n
 n2 : n ≤ 32
 nd : ts.Nodup
 rg : ∀ t∈ts,(0 ≤ t.1∧t.1 < n)∧(0 ≤ t.2∧t.2 < n)
 ne : ∀ t∈ts,t.1 ≠ t.2
 bal : ∀ h : Int,(ts.filter fun t=>decide (t.1 = h)).length = (ts.filter fun t=>decide (t.2 = h)).length
 most : ∀ h : Int,(ts.filter fun t=>decide (t.1 = h)).length ≤ 8
 con : ∀ a b,a < n→b < n→∃ k,Walk ts k a b
theorem aAH {α : Type} (f : α→Int) : ∀ (l : List α) (n : Nat),(∀ x∈l,0 ≤ f x∧f x < n)→(∀ h : Int,(l.filter fun t=>decide (f t = h)).length ≤ 8)→l.length ≤ 8 * n:=by
 intro l n
 induction n generalizing l with
 | zero =>
  intro h _
  cases l with
  | nil=>simp
  | cons x xs=>have:=h x List.mem_cons_self; omega
 | succ n ih =>
  intro h h8
  have e : l.length = (l.filter fun t=>decide (f t = (n : Int))).length + (l.filter fun t=>!decide (f t = (n : Int))).length:=by
   induction l with
   | nil=>rfl
   | cons x xs ih2 =>
    have:=ih2 (fun y hy=>h y (List.mem_cons_of_mem _ hy)) (fun hh=>Nat.le_trans (by rw [List.filter_cons]; split <;> simp) (h8 hh))
    by_cases q : f x = (n : Int) <;> simp [List.filter_cons,q] <;> omega
  have i2:=ih (l.filter fun t=>!decide (f t = (n : Int))) (fun x hx=>by
   have a:=h x (List.mem_filter.mp hx |>.1)
   have b:=(List.mem_filter.mp hx).2
   simp at b
   omega) (fun hh=>by
   refine Nat.le_trans ?_ (h8 hh)
   exact (List.filter_sublist.filter _).length_le)
  have:=h8 (n : Int)
  omega
theorem Fine.len {n : Nat} {ts : Ts} (F : Fine n ts) : ts.length ≤ 256:=by
 have:=aAH (·.1) ts n (fun t ht=>(F.rg t ht).1) F.most
 have:=F.n2
 omega
theorem Fine.tlt {n : Nat} {ts : Ts} (F : Fine n ts) {a b : Nat} (h : T ts a b) : a < n∧b < n∧a ≠ b:=by
 have q:=F.rg _ h
 have q2:=F.ne _ h
 refine ⟨by have:=q.1; simp at this; omega,by have:=q.2; simp at this; omega,fun e=>q2 (by rw [e])⟩
theorem Fine.fars {n : Nat} {ts : Ts} (F : Fine n ts) {a b : Nat} (ha : a < n) (hb : b < n) : gR ts a b (far ts a b) :=
 let ⟨_,w⟩:=F.con a b ha hb; aD3 w
def outN (n : Nat) (ts : Ts) (h : Nat) : List Nat:=((List.range n).map fun s=>(h + s) % n).filter fun o=>decide (T ts h o)
theorem dM {n : Nat} {ts : Ts} (F : Fine n ts) {h o : Nat} (hh : h < n) : o∈outN n ts h↔T ts h o:=by
 unfold outN
 rw [List.mem_filter,decide_eq_true_eq]
 refine ⟨fun z=>z.2,fun z=>⟨?_,z⟩⟩
 obtain ⟨_,h2,_⟩:=F.tlt z
 refine List.mem_map.mpr ⟨if h ≤ o then o - h else o + n - h,List.mem_range.mpr (by split <;> omega),?_⟩
 split
 ·rw [show h + (o - h) = o by omega,Nat.mod_eq_of_lt h2]
 ·rw [show h + (o + n - h) = o + n by omega,Nat.add_mod_right,Nat.mod_eq_of_lt h2]
theorem pP {n : Nat} {ts : Ts} (F : Fine n ts) {h o : Nat} (hh : h < n) (ho : o∈outN n ts h) : o < n:=(F.tlt ((dM F hh).mp ho)).2.1
def key (n h o : Nat) : Int:=((o : Int) - (h : Int)) % (n : Int)
theorem eO {n h s : Nat} (hh : h < n) (hs : s < n) : key n h ((h + s) % n) = (s : Int):=by
 unfold key
 by_cases c : h + s < n
 ·rw [Nat.mod_eq_of_lt c,show (((h + s : Nat) : Int) - (h : Int)) = (s : Int) by omega]
  exact Int.emod_eq_of_lt (by omega) (by omega)
 ·have e : (h + s) % n = h + s - n:=by
   rw [Nat.mod_eq_sub_mod (by omega),Nat.mod_eq_of_lt (by omega)]
  rw [e,show ((((h + s - n : Nat)) : Int) - (h : Int)) = (s : Int) - (n : Int) by omega,Int.sub_emod_right]
  exact Int.emod_eq_of_lt (by omega) (by omega)
theorem iV {n : Nat} {ts : Ts} {h : Nat} (hh : h < n) : (outN n ts h).Pairwise fun a b=>key n h a < key n h b:=by
 unfold outN
 refine List.Pairwise.filter _ ?_
 refine List.pairwise_map.mpr ?_
 refine List.Pairwise.imp_of_mem ?_ (List.pairwise_lt_range (n:=n))
 intro a b ha hb hab
 rw [eO hh (List.mem_range.mp ha),eO hh (List.mem_range.mp hb)]
 omega
theorem gE {α : Type} {k : α→Int} : ∀ {a b : List α},a.Pairwise (fun x y=>k x < k y)→b.Pairwise (fun x y=>k x < k y)→(∀ x,x∈a↔x∈b)→a = b
 | [],[],_,_,_=>rfl
 | [],y :: ys,_,_,h=>absurd ((h y).mpr List.mem_cons_self) (by simp)
 | x :: xs,[],_,_,h=>absurd ((h x).mp List.mem_cons_self) (by simp)
 | x :: xs,y :: ys,ha,hb,h=>by
  obtain ⟨a1,a2⟩:=List.pairwise_cons.mp ha
  obtain ⟨b1,b2⟩:=List.pairwise_cons.mp hb
  have e : x = y:=by
   rcases List.mem_cons.mp ((h x).mp List.mem_cons_self) with z | z
   ·exact z
   ·rcases List.mem_cons.mp ((h y).mpr List.mem_cons_self) with z' | z'
    ·exact z'.symm
    ·have q1:=b1 x z
     have q2:=a1 y z'
     omega
  subst e
  refine congrArg (x :: ·) (gE a2 b2 fun z=>⟨fun hz=>?_,fun hz=>?_⟩)
  ·rcases List.mem_cons.mp ((h z).mp (List.mem_cons_of_mem _ hz)) with q | q
   ·subst q; exact absurd (a1 _ hz) (by omega)
   ·exact q
  ·rcases List.mem_cons.mp ((h z).mpr (List.mem_cons_of_mem _ hz)) with q | q
   ·subst q; exact absurd (b1 _ hz) (by omega)
   ·exact q
structure Bfs (n : Nat) (ts : Ts) (s i : Nat) (R : List Nat) (f : Nat→Nat) : Prop where
 nd : R.Nodup
 lt : ∀ x∈R,x < n
 st : s∈R
 z : f s = 0
 wk : ∀ x∈R,Walk ts (f x) s x
 up : R.Pairwise fun a b=>f a ≤ f b
 bd : ∀ u,R[i]? = some u→∀ x∈R,f x ≤ f u + 1
 cl : ∀ j u,j < i→R[j]? = some u→∀ v,T ts u v→v∈R∧f v ≤ f u + 1
theorem Bfs.start {n : Nat} {ts : Ts} {s : Nat} (hs : s < n) : Bfs n ts s 0 [s] (fun _=>0) :=
 ⟨by simp,fun x hx=>by simp at hx; omega,by simp,rfl,fun x hx=>by simp at hx; subst hx; rfl,by simp,fun u _ x _=>by omega,fun j u h=>absurd h (by omega)⟩
def put (f : Nat→Nat) (v k : Nat) : Nat→Nat:=fun y=>if y = v then k else f y
theorem iF {f : Nat→Nat} {v k : Nat} : put f v k v = k:=by simp [put]
theorem dP {f : Nat→Nat} {v k x : Nat} (h : x ≠ v) : put f v k x = f x:=by simp [put,h]
theorem Bfs.add {n : Nat} {ts : Ts} {s i u v : Nat} {R : List Nat} {f : Nat→Nat} (B : Bfs n ts s i R f) (hu : R[i]? = some u) (hv : v < n) (t : T ts u v) (hn : v ∉ R) : Bfs n ts s i (R ++ [v]) (put f v (f u + 1)):=by
 have hur : u∈R:=List.mem_of_getElem? hu
 have nv : ∀ x∈R,x ≠ v:=fun x hx e=>hn (e ▸ hx)
 have hi : i < R.length:=(List.getElem?_eq_some_iff.mp hu).1
 refine ⟨?_,fun x hx=>?_,List.mem_append_left _ B.st,by rw [dP (nv s B.st)]; exact B.z,fun x hx=>?_,?_,fun w hw x hx=>?_,fun j w hj hw x hx=>?_⟩
 ·rw [List.nodup_append]
  exact ⟨B.nd,by simp,fun a ha b hb e=>by simp at hb; subst hb; exact hn (e ▸ ha)⟩
 ·rcases List.mem_append.mp hx with z | z
  ·exact B.lt x z
  ·simp at z; omega
 ·rcases List.mem_append.mp hx with z | z
  ·rw [dP (nv x z)]; exact B.wk x z
  ·simp at z; subst z
   rw [iF]
   exact ⟨u,B.wk u hur,t⟩
 ·rw [List.pairwise_append]
  refine ⟨B.up.imp_of_mem fun {a b} ha hb h=>by rw [dP (nv a ha),dP (nv b hb)]; exact h,by simp,fun a ha b hb=>?_⟩
  simp at hb; subst hb
  rw [dP (nv a ha),iF]
  exact B.bd u hu a ha
 ·have hw' : w = u:=by
   rw [List.getElem?_append_left hi,hu] at hw
   exact (Option.some.inj hw).symm
  subst hw'
  rw [dP (nv w hur)]
  rcases List.mem_append.mp hx with z | z
  ·rw [dP (nv x z)]; exact B.bd w hu x z
  ·simp at z; subst z; rw [iF]; exact Nat.le_refl _
 ·rw [List.getElem?_append_left (by omega)] at hw
  obtain ⟨a,b⟩:=B.cl j w hj hw x hx
  refine ⟨List.mem_append_left _ a,?_⟩
  rw [dP (nv x a),dP (nv w (List.mem_of_getElem? hw))]
  exact b
theorem Bfs.next {n : Nat} {ts : Ts} {s i u : Nat} {R : List Nat} {f : Nat→Nat} (B : Bfs n ts s i R f) (hu : R[i]? = some u) (h : ∀ v,T ts u v→v∈R∧f v ≤ f u + 1) : Bfs n ts s (i + 1) R f:=by
 refine ⟨B.nd,B.lt,B.st,B.z,B.wk,B.up,fun w hw x hx=>?_,fun j w hj hw v hv=>?_⟩
 ·have h1:=B.bd u hu x hx
  have h2 : f u ≤ f w:=by
   have hi : i < R.length:=(List.getElem?_eq_some_iff.mp hu).1
   have hi' : i + 1 < R.length:=(List.getElem?_eq_some_iff.mp hw).1
   have:=List.pairwise_iff_getElem.mp B.up i (i + 1) hi hi' (by omega)
   rw [List.getElem?_eq_getElem hi] at hu
   rw [List.getElem?_eq_getElem hi'] at hw
   rw [Option.some.inj hu,Option.some.inj hw] at this
   exact this
  omega
 ·by_cases e : j = i
  ·subst e
   rw [hu] at hw
   cases hw
   exact h v hv
  ·exact B.cl j w (by omega) hw v hv
theorem dG : ∀ {n : Nat} {R : List Nat},R.Nodup→(∀ x∈R,x < n)→R.length ≤ n:=by
 intro n R hn hl
 have key : ∀ (a b : List Nat),a.Nodup→(∀ x∈a,x∈b)→a.length ≤ b.length:=by
  intro a
  induction a with
  | nil=>intro b _ _; exact Nat.zero_le _
  | cons x xs ih =>
   intro b hn hs
   obtain ⟨h1,h2⟩:=List.nodup_cons.mp hn
   have hx : x∈b:=hs x List.mem_cons_self
   have:=ih (b.erase x) h2 fun y hy=>(List.mem_erase_of_ne (fun (e : y = x)=>h1 (e ▸ hy))).mpr (hs y (List.mem_cons_of_mem _ hy))
   rw [List.length_erase_of_mem hx] at this
   have : 0 < b.length:=List.length_pos_of_mem hx
   rw [List.length_cons]
   omega
 have:=key R (List.range n) hn fun x hx=>List.mem_range.mpr (hl x hx)
 rwa [List.length_range] at this
theorem Bfs.done {n : Nat} {ts : Ts} {s i : Nat} {R : List Nat} {f : Nat→Nat} (B : Bfs n ts s i R f) (F : Fine n ts) (hi : R.length ≤ i) {x : Nat} (hx : x < n) : x∈R∧f x = far ts s x:=by
 have cl : ∀ u∈R,∀ v,T ts u v→v∈R∧f v ≤ f u + 1:=fun u hu v hv=>by
  obtain ⟨j,hj,e⟩:=List.mem_iff_getElem.mp hu
  exact B.cl j u (by omega) (by rw [List.getElem?_eq_getElem hj,e]) v hv
 have walk : ∀ k x,Walk ts k s x→x∈R∧f x ≤ k:=by
  intro k
  induction k with
  | zero=>intro x e; cases e; exact ⟨B.st,by rw [B.z]; exact Nat.le_refl _⟩
  | succ k ih =>
   rintro x ⟨c,w,t⟩
   obtain ⟨c1,c2⟩:=ih c w
   obtain ⟨d1,d2⟩:=cl c c1 x t
   exact ⟨d1,by omega⟩
 obtain ⟨k,w⟩:=F.con s x (B.lt s B.st) hx
 obtain ⟨m,_⟩:=walk k x w
 exact ⟨m,(oR ⟨B.wk x m,fun k w=>(walk k x w).2⟩).symm⟩
end NetM
namespace NetM
theorem Walk.mono {ts ts' : Ts} (h : ∀ t∈ts,t∈ts') : ∀ {k a b : Nat},Walk ts k a b→Walk ts' k a b
 | 0,_,_,e=>e
 | _ + 1,_,_,⟨c,w,t⟩=>⟨c,w.mono h,h _ t⟩
theorem Fine.perm {n : Nat} {ts ts' : Ts} (F : Fine n ts) (p : ts'.Perm ts) : Fine n ts' :=
  ⟨F.n1, F.n2, p.nodup_iff.mpr F.nd, fun t ht => F.rg t (p.mem_iff.mp ht), fun t ht => F.ne t (p.mem_iff.mp ht), fun h => by rw [(p.filter _).length_eq, (p.filter _).length_eq]; exact F.bal h,
   fun h => by rw [(p.filter _).length_eq]; exact F.most h, fun a b ha hb => let ⟨k, w⟩ := F.con a b ha hb; ⟨k, w.mono fun t ht => p.mem_iff.mpr ht⟩⟩
theorem aAI {xs : List Nat} (nd : xs.Nodup) {i j : Nat} (hi : i < xs.length) (hj : j < xs.length) (e : xs[i] = xs[j]) : i = j:=by
 have pw:=List.pairwise_iff_getElem.mp nd
 rcases Nat.lt_trichotomy i j with z | z | z
 ·exact absurd e (pw i j hi hj z)
 ·exact z
 ·exact absurd e.symm (pw j i hj hi z)
end NetM
namespace NetM
theorem Walk.split {ts : Ts} {s x : Nat} : ∀ {m d : Nat},d ≤ m→Walk ts m s x→∃ y,Walk ts d s y∧Walk ts (m - d) y x
 | m,d,h,w=>by
  induction m generalizing x with
  | zero =>
   have : d = 0:=by omega
   subst this
   exact ⟨s,rfl,w⟩
  | succ m ih =>
   by_cases e : d = m + 1
   ·subst e
    exact ⟨x,w,by rw [Nat.sub_self]; rfl⟩
   ·obtain ⟨c,w1,t⟩:=w
    obtain ⟨y,a,b⟩:=ih (by omega) w1
    exact ⟨y,a,by rw [show m + 1 - d = (m - d) + 1 by omega]; exact ⟨c,b,t⟩⟩
theorem Fine.wlt {n : Nat} {ts : Ts} (F : Fine n ts) {s : Nat} (hs : s < n) : ∀ {k x : Nat},Walk ts k s x→x < n
 | 0,_,e=>by cases e; exact hs
 | _ + 1,_,⟨_,_,t⟩=>(F.tlt t).2.1
theorem Fine.far_le {n : Nat} {ts : Ts} (F : Fine n ts) {a b k : Nat} (ha : a < n) (hb : b < n) (w : Walk ts k a b) : far ts a b ≤ k:=(F.fars ha hb).2 k w
theorem Fine.far_tie {n : Nat} {ts : Ts} (F : Fine n ts) {s u v : Nat} (hs : s < n) (hu : u < n) (t : T ts u v) : far ts s v ≤ far ts s u + 1 :=
 F.far_le hs (F.tlt t).2.1 ⟨u,(F.fars hs hu).1,t⟩
theorem Fine.far_pred {n : Nat} {ts : Ts} (F : Fine n ts) {s x d : Nat} (hs : s < n) (hx : x < n) (h : far ts s x = d + 1) : ∃ u,u < n∧far ts s u = d∧T ts u x:=by
 have w:=(F.fars hs hx).1
 rw [h] at w
 obtain ⟨u,wu,t⟩:=w
 have hu : u < n:=(F.tlt t).1
 have h1:=F.far_le hs hu wu
 have h2:=F.far_tie hs hu t
 exact ⟨u,hu,by omega,t⟩
theorem Fine.far_mid {n : Nat} {ts : Ts} (F : Fine n ts) {s x d : Nat} (hs : s < n) (hx : x < n) (h : d ≤ far ts s x) : ∃ y,y < n∧far ts s y = d:=by
 obtain ⟨y,a,b⟩:=Walk.split h (F.fars hs hx).1
 have hy:=F.wlt hs a
 refine ⟨y,hy,?_⟩
 have h1:=F.far_le hs hy a
 have h2:=F.far_le hs hx ((F.fars hs hy).1.trans b)
 omega
structure Lay (n : Nat) (ts : Ts) (s d : Nat) (xs ls : List Nat) : Prop where
 ndx : xs.Nodup
 ndl : ls.Nodup
 mx : ∀ x,x∈xs↔x < n∧far ts s x ≤ d
 ml : ∀ x,x∈ls↔x < n∧far ts s x = d
theorem Lay.start {n : Nat} {ts : Ts} {s : Nat} (F : Fine n ts) (hs : s < n) : Lay n ts s 0 [s] [s]:=by
 have key : ∀ x,x = s↔x < n∧far ts s x = 0:=fun x=>by
  constructor
  ·rintro rfl; exact ⟨hs,tP⟩
  ·rintro ⟨hx,h⟩
   have w:=(F.fars hs hx).1
   rw [h] at w
   exact w.symm
 refine ⟨by simp,by simp,fun x=>?_,fun x=>?_⟩
 ·rw [List.mem_singleton,key]; constructor <;> rintro ⟨a,b⟩ <;> exact ⟨a,by omega⟩
 ·rw [List.mem_singleton,key]
structure Fur (n : Nat) (ts : Ts) (xs ls : List Nat) (j : Nat) (fs : List Nat) : Prop where
 nd : fs.Nodup
 nx : ∀ x∈fs,x ∉ xs
 from_ : ∀ x∈fs,∃ u∈ls,T ts u x
 all : ∀ u∈ls.take j,∀ v,T ts u v→v∈xs∨v∈fs
theorem Fur.start {n : Nat} {ts : Ts} {xs ls : List Nat} : Fur n ts xs ls 0 []:=⟨by simp,(fun x h=>nomatch h),(fun x h=>nomatch h),fun u hu=>by simp at hu⟩
theorem yM {n : Nat} {ts : Ts} {h : Nat} (hh : h < n) : (outN n ts h).Nodup:=(iV hh).imp fun {a b} hab e=>by subst e; omega
theorem Fur.step {n : Nat} {ts : Ts} {xs ls fs : List Nat} {j u : Nat} (F : Fine n ts) (S : Fur n ts xs ls j fs) (hu : ls[j]? = some u) (hun : u < n) :
  Fur n ts xs ls (j + 1) (fs ++ (outN n ts u).filter fun o=>!decide (o∈xs) && !decide (o∈fs)):=by
 have tk : ls.take (j + 1) = ls.take j ++ [u]:=by rw [List.take_add_one,hu]; rfl
 refine ⟨?_,fun x hx=>?_,fun x hx=>?_,fun w hw v t=>?_⟩
 ·rw [List.nodup_append]
  refine ⟨S.nd,(yM hun).filter _,fun a ha b hb e=>?_⟩
  subst e
  have:=(List.mem_filter.mp hb).2
  simp [ha] at this
 ·rcases List.mem_append.mp hx with z | z
  ·exact S.nx x z
  ·have:=(List.mem_filter.mp z).2
   simp at this
   exact this.1
 ·rcases List.mem_append.mp hx with z | z
  ·exact S.from_ x z
  ·exact ⟨u,List.mem_of_getElem? hu,(dM F hun).mp (List.mem_filter.mp z).1⟩
 ·rw [tk] at hw
  rcases List.mem_append.mp hw with z | z
  ·rcases S.all w z v t with q | q
   ·exact .inl q
   ·exact .inr (List.mem_append_left _ q)
  ·simp at z; subst z
   by_cases h1 : v∈xs
   ·exact .inl h1
   ·by_cases h2 : v∈fs
    ·exact .inr (List.mem_append_left _ h2)
    ·exact .inr (List.mem_append_right _ (List.mem_filter.mpr ⟨(dM F hun).mpr t,by simp [h1,h2]⟩))
theorem Lay.next {n : Nat} {ts : Ts} {s d : Nat} {xs ls fs : List Nat} (L : Lay n ts s d xs ls) (F : Fine n ts) (hs : s < n) (S : Fur n ts xs ls ls.length fs) : Lay n ts s (d + 1) (xs ++ fs) fs:=by
 have al : ∀ u∈ls,∀ v,T ts u v→v∈xs∨v∈fs:=fun u hu=>S.all u (by rw [List.take_length]; exact hu)
 have mf : ∀ x,x∈fs↔x < n∧far ts s x = d + 1:=fun x=>by
  constructor
  ·intro hx
   obtain ⟨u,hu,t⟩:=S.from_ x hx
   obtain ⟨hun,hud⟩:=(L.ml u).mp hu
   have hxn:=(F.tlt t).2.1
   have h1:=F.far_tie hs hun t
   have h2 : ¬ far ts s x ≤ d:=fun z=>S.nx x hx ((L.mx x).mpr ⟨hxn,z⟩)
   exact ⟨hxn,by omega⟩
  ·rintro ⟨hxn,h⟩
   obtain ⟨u,hun,hud,t⟩:=F.far_pred hs hxn h
   rcases al u ((L.ml u).mpr ⟨hun,hud⟩) x t with q | q
   ·have:=((L.mx x).mp q).2
    omega
   ·exact q
 refine ⟨?_,S.nd,fun x=>?_,mf⟩
 ·rw [List.nodup_append]
  exact ⟨L.ndx,S.nd,fun a ha b hb e=>S.nx b hb (e ▸ ha)⟩
 ·rw [List.mem_append,L.mx,mf]
  constructor
  ·rintro (⟨a,b⟩ | ⟨a,b⟩)
   ·exact ⟨a,by omega⟩
   ·exact ⟨a,by omega⟩
  ·rintro ⟨a,b⟩
   by_cases e : far ts s x ≤ d
   ·exact .inl ⟨a,e⟩
   ·exact .inr ⟨a,by omega⟩
theorem Lay.done {n : Nat} {ts : Ts} {s d : Nat} {xs : List Nat} (L : Lay n ts s d xs []) (F : Fine n ts) (hs : s < n) {x : Nat} (hx : x < n) : x∈xs:=by
 refine (L.mx x).mpr ⟨hx,?_⟩
 apply Classical.byContradiction
 intro h
 obtain ⟨y,hy,e⟩:=F.far_mid hs hx (d:=d) (by omega)
 exact absurd ((L.ml y).mpr ⟨hy,e⟩) (by simp)
theorem Lay.len {n : Nat} {ts : Ts} {s d : Nat} {xs ls : List Nat} (L : Lay n ts s d xs ls) : xs.length ≤ n:=dG L.ndx fun x hx=>((L.mx x).mp hx).1
end NetM
namespace L2
open PySem PySem.Spec PyProof.Rows
section
variable {X : Cx}
theorem tQ : ∀ {ns : List Int} {its : List Value},Vals (ns.map V.int) its→∃ xs : List (Int × Tok),its = xs.map (fun p=>Value.int p.1 p.2)∧xs.map (·.1) = ns
 | [],_,r=>by cases r; exact ⟨[],rfl,rfl⟩
 | n :: ns,_,r=>by
  cases r with
  | cons r rr =>
   obtain ⟨t,rfl⟩:=(show ∃ t,_ = Value.int n t from r)
   obtain ⟨xs,rfl,e⟩:=tQ rr
   exact ⟨(n,t) :: xs,rfl,by rw [List.map_cons,e]⟩
def yN (K : W.Frag) : List V→Hp→VK→Prop:=fun xs H Q=>∃ (l : Addr) (ns : List Int),xs = [.ref l]∧SqL K H l (ns.map V.int)∧ns ≠ []∧∀ M,M∈ns→(∀ a∈ns,a ≤ M)→Q (.int M) H
theorem iP (hc : X.calm = true) : cK X (.builtin "max") (yN X.K) := by
  intro pins s σ H xs us Q I r h
  obtain ⟨l, ns, rfl, hl, hne, q⟩ := h
  obtain ⟨u1, rfl, r1⟩ := r.one
  obtain rfl : u1 = Value.ref l := r1
  obtain ⟨its, rv, pl, _⟩ := I.list hl
  obtain ⟨ps, rfl, rfl⟩ := tQ rv
  have hi : intItems ps.toArray = (ps.map (fun p => Value.int p.1 p.2)).toArray := by unfold intItems; simp
  have hsz : 0 < ps.toArray.size := by
    cases ps with
    | nil => exact absurd rfl hne
    | cons p ps => simp
  refine max_intList (I.ok.hd hc) (xs := ps.toArray) (by rw [hi]; exact pl.isList) hsz fun v h' tk hv hk => ?_
  obtain ⟨t, rfl⟩ := intItems_at hv
  obtain ⟨h1, h2⟩ := argBest_gt (numAt ps.toArray) (ps.toArray.size - 1)
  have num : ∀ j, j < ps.length → numAt ps.toArray j ∈ ps.map (·.1) ∧ numAt ps.toArray j = (ps.map (·.1)).getD j 0 := fun j hj => by
    have e : numAt ps.toArray j = ps[j].1 := by unfold numAt; simp [List.getElem?_eq_getElem hj]
    refine ⟨by rw [e]; exact List.mem_map.mpr ⟨_, List.getElem_mem hj, rfl⟩, ?_⟩
    rw [e, List.getD_eq_getElem?_getD, List.getElem?_map, List.getElem?_eq_getElem hj]; rfl
  have hb : argBest (fun i j => decide (numAt ps.toArray i > numAt ps.toArray j)) (ps.toArray.size - 1) < ps.length := by
    have : ps.toArray.size = ps.length := by simp
    omega
  refine ⟨.int _, H, I.kept (t' := tk) hk, ⟨t, rfl⟩, q _ (num _ hb).1 fun a ha => ?_⟩
  obtain ⟨j, hj, e⟩ := List.mem_iff_getElem.mp ha
  rw [List.length_map] at hj
  have := h2 j (by have : ps.toArray.size = ps.length := by simp
                   omega)
  rw [(num j hj).2, List.getD_eq_getElem?_getD, List.getElem?_eq_getElem (by rw [List.length_map]; exact hj)] at this
  rw [← e]
  exact this
def aEF (K : W.Frag) : List V→Hp→VK→Prop:=fun xs H Q=>∃ (p C tp : Addr) (cs : List Addr) (b : Bool),xs = [.ref p,.ref tp]∧ECls K C∧H p = some (excO p (.ref C))∧SqT K H tp (cs.map V.ref)∧W.kitAny K (.ref C) (cs.map Value.ref) = some b∧Q (.bl b) H
theorem aAJ : cK X (.builtin "isinstance") (aEF X.K):=by
 intro pins s σ H xs us Q I r h
 obtain ⟨p,C,tp,cs,b,rfl,T,ea,ht,e,q⟩:=h
 obtain ⟨u1,u2,rfl,r1,r2⟩:=r.two
 obtain rfl : u1 = Value.ref p:=r1
 obtain rfl : u2 = Value.ref tp:=r2
 have p1 : IsX p (.ref C) s.heap:=(I.hok p _ ea).1
 obtain ⟨its,rv,⟨⟨ocls,od,odata,osl⟩,eo,hcl,n,hd⟩,_⟩:=I.tuple ht
 have hits:=jY rv
 subst hits
 simp only at hcl hd
 subst hcl; subst hd
 exact W.kia_tup (mY T) I.kIn p1 eo e (fun z=>nomatch z) fun tk=>⟨.bl b,H,I.tok tk,rfl,q⟩
end
end L2
namespace NetM
abbrev swp (u : Int × Int) : Int × Int:=(u.2,u.1)
def dbl (ps : Ts) : Ts:=ps.flatMap fun u=>[u,swp u]
theorem yO {ps qs : Ts} : dbl (ps ++ qs) = dbl ps ++ dbl qs:=List.flatMap_append
theorem iG : ∀ {ps : Ts},(dbl ps).Perm (ps ++ ps.map swp)
 | []=>List.Perm.refl _
 | u :: ps=>by
  have ih:=iG (ps:=ps)
  show (u :: swp u :: dbl ps).Perm (u :: (ps ++ swp u :: ps.map swp))
  refine List.Perm.cons _ ?_
  exact (ih.cons _).trans List.perm_middle.symm
theorem pQ : ∀ {ps : Ts},(dbl ps).length = 2 * ps.length
 | []=>rfl
 | u :: ps=>by
  have ih:=pQ (ps:=ps)
  show (dbl ps).length + 2 = 2 * (ps.length + 1)
  omega
theorem wP {ps : Ts} {u : Int × Int} (h : u∈dbl ps) : swp u∈dbl ps:=by
 obtain ⟨v,hv,hu⟩:=List.mem_flatMap.mp h
 refine List.mem_flatMap.mpr ⟨v,hv,?_⟩
 rcases List.mem_cons.mp hu with e | e
 ·rw [e]; exact List.mem_cons_of_mem _ (List.mem_singleton.mpr rfl)
 ·rw [List.mem_singleton.mp e]; exact List.mem_cons_self
theorem pR {ps : Ts} {u : Int × Int} : u∈dbl ps↔u∈ps∨swp u∈ps:=by
 rw [(iG (ps:=ps)).mem_iff,List.mem_append]
 refine or_congr Iff.rfl ⟨fun h=>?_,fun h=>List.mem_map.mpr ⟨_,h,rfl⟩⟩
 obtain ⟨v,hv,rfl⟩:=List.mem_map.mp h
 exact hv
theorem aC2 {ps : Ts} : ((dbl ps).map swp).Perm (dbl ps):=by
 refine ((iG (ps:=ps)).map swp).trans (List.Perm.trans ?_ (iG (ps:=ps)).symm)
 rw [List.map_append,List.map_map]
 have e : ps.map (swp ∘ swp) = ps:=(List.map_congr_left fun u _=>rfl).trans (List.map_id ps)
 rw [e]
 exact List.perm_append_comm
abbrev ci2 (q : Nat × Nat) : Int × Int:=((q.1 : Int),(q.2 : Int))
def b1 (b : Bool) : Nat:=cond b 1 0
def cntB (h : Nat) : List (Nat × Nat)→Nat
 | []=>0
 | q :: qs=>b1 (Nat.beq q.1 h) + (b1 (Nat.beq q.2 h) + cntB h qs)
theorem wQ {h : Nat} : ∀ {qs : List (Nat × Nat)},((dbl (qs.map ci2)).filter fun t=>decide (t.1 = (h : Int))).length = cntB h qs
 | []=>rfl
 | q :: qs=>by
  have ih:=wQ (h:=h) (qs:=qs)
  have e : ∀ a : Nat,(if decide ((a : Int) = (h : Int)) = true then 1 else 0) = b1 (Nat.beq a h):=fun a=>by
   by_cases c : a = h
   ·subst c; rw [if_pos (by simp),Nat.beq_refl]; rfl
   ·rw [if_neg (by simp; omega),show Nat.beq a h = false from Bool.eq_false_iff.mpr fun z=>c (Nat.eq_of_beq_eq_true z)]; rfl
  show ((ci2 q :: swp (ci2 q) :: dbl (qs.map ci2)).filter _).length = b1 (Nat.beq q.1 h) + (b1 (Nat.beq q.2 h) + cntB h qs)
  rw [← ih,← e q.1,← e q.2,List.filter_cons,List.filter_cons]
  split <;> split <;> simp <;> omega
end NetM
namespace NetM
def pr : List Nat→Nat
 | []=>1
 | n :: ns=>n * pr ns
def bxr (m st n : Nat) : List (Nat × Nat):=((List.range m).filter fun h=>decide (h / st % n + 1 < n)).map fun h=>(h,h + st)
def bx (m : Nat) : Nat→List Nat→List (Nat × Nat)
 | _,[]=>[]
 | st,n :: ns=>bxr m st n ++ bx m (st * n) ns
def boxQ (ns : List Nat) : List (Nat × Nat):=bx (pr ns) 1 ns
def UpS : Nat→List Nat→Nat→Nat→Prop
 | _,[],_,_=>False
 | st,n :: ns,a,b=>(a / st % n + 1 < n∧b = a + st)∨UpS (st * n) ns a b
theorem wR {m st n : Nat} {q : Nat × Nat} : q∈bxr m st n↔q.1 < m∧q.1 / st % n + 1 < n∧q.2 = q.1 + st:=by
 unfold bxr
 rw [List.mem_map]
 constructor
 ·rintro ⟨h,hh,rfl⟩
  obtain ⟨h1,h2⟩:=List.mem_filter.mp hh
  exact ⟨List.mem_range.mp h1,of_decide_eq_true h2,rfl⟩
 ·rintro ⟨h1,h2,h3⟩
  exact ⟨q.1,List.mem_filter.mpr ⟨List.mem_range.mpr h1,decide_eq_true h2⟩,Prod.ext rfl h3.symm⟩
theorem lD {m : Nat} {q : Nat × Nat} : ∀ {ns : List Nat} {st : Nat},q∈bx m st ns↔q.1 < m∧UpS st ns q.1 q.2
 | [],st=>⟨fun h=>(nomatch h),fun h=>h.2.elim⟩
 | n :: ns,st=>by
  unfold bx UpS
  rw [List.mem_append,wR,lD (ns:=ns)]
  constructor
  ·rintro (⟨a,b,c⟩ | ⟨a,b⟩)
   ·exact ⟨a,.inl ⟨b,c⟩⟩
   ·exact ⟨a,.inr b⟩
  ·rintro ⟨a,⟨b,c⟩ | b⟩
   ·exact .inl ⟨a,b,c⟩
   ·exact .inr ⟨a,b⟩
abbrev U (ns : List Nat) : Nat→Nat→Prop:=UpS 1 ns
theorem pS : ∀ {ns : List Nat} {st a b : Nat},0 < st→(∀ n∈ns,0 < n)→(UpS st ns a b↔a % st = b % st∧U ns (a / st) (b / st))
 | [],st,a,b,h,_=>⟨fun z=>z.elim,fun z=>z.2.elim⟩
 | n :: ns,st,a,b,h,hn=>by
  have hn0:=hn n List.mem_cons_self
  have hns : ∀ n∈ns,0 < n:=fun x hx=>hn x (List.mem_cons_of_mem _ hx)
  show (_∨UpS (st * n) ns a b)↔a % st = b % st∧(_∨UpS (1 * n) ns (a / st) (b / st))
  rw [Nat.one_mul,pS (Nat.mul_pos h hn0) hns,pS hn0 hns,Nat.div_one,Nat.div_div_eq_div_mul a st n,Nat.div_div_eq_div_mul b st n,Nat.mod_mul,Nat.mod_mul]
  have e1:=Nat.div_add_mod a st
  have e2:=Nat.div_add_mod b st
  constructor
  ·rintro (⟨c,rfl⟩ | ⟨c,d⟩)
   ·refine ⟨by rw [Nat.add_mod_right],.inl ⟨c,by rw [Nat.add_div_right _ h]⟩⟩
   ·have m1 : a % st = b % st:=by
     have:=congrArg (· % st) c
     simp only [Nat.add_mul_mod_self_left,Nat.mod_mod] at this
     exact this
    refine ⟨m1,.inr ⟨?_,d⟩⟩
    rw [m1] at c
    exact Nat.eq_of_mul_eq_mul_left h (Nat.add_left_cancel c)
  ·rintro ⟨m1,⟨c,d⟩ | ⟨c,d⟩⟩
   ·refine .inl ⟨c,?_⟩
    rw [← e2,d,← m1,Nat.mul_add,Nat.mul_one,Nat.add_right_comm,e1]
   ·exact .inr ⟨by rw [m1,c],d⟩
theorem lE {n : Nat} {ns : List Nat} {a b : Nat} (h : ∀ x∈n :: ns,0 < x) : U (n :: ns) a b↔(a % n + 1 < n∧b = a + 1)∨(a % n = b % n∧U ns (a / n) (b / n)):=by
 show (_∨UpS (1 * n) ns a b)↔_
 rw [Nat.one_mul,pS (h n List.mem_cons_self) fun x hx=>h x (List.mem_cons_of_mem _ hx),Nat.div_one]
theorem jZ {a n : Nat} (h : a % n + 1 < n) : (a + 1) / n = a / n∧(a + 1) % n = a % n + 1:=by
 have e:=Nat.div_add_mod a n
 have e2 : a + 1 = n * (a / n) + (a % n + 1):=by omega
 have hn : 0 < n:=by omega
 rw [e2,Nat.mul_add_div hn,Nat.mul_add_mod,Nat.div_eq_of_lt h,Nat.mod_eq_of_lt h]
 exact ⟨rfl,rfl⟩
theorem aEG {a b n : Nat} (h1 : a / n = b / n) (h2 : a % n = b % n) : a = b:=by rw [← Nat.div_add_mod a n,← Nat.div_add_mod b n,h1,h2]
theorem u_lt : ∀ {ns : List Nat} {a b : Nat},(∀ x∈ns,0 < x)→U ns a b→a < pr ns→a < b∧b < pr ns
 | [],a,b,_,h,_=>h.elim
 | n :: ns,a,b,hn,h,ha=>by
  have hn0:=hn n List.mem_cons_self
  have hns : ∀ n∈ns,0 < n:=fun x hx=>hn x (List.mem_cons_of_mem _ hx)
  have ha' : a < n * pr ns:=ha
  have hq : a / n < pr ns:=Nat.div_lt_of_lt_mul ha'
  show a < b∧b < n * pr ns
  rcases (lE hn).mp h with ⟨c,rfl⟩ | ⟨c,d⟩
  ·refine ⟨by omega,?_⟩
   have e:=Nat.div_add_mod a n
   have:=Nat.mul_le_mul_left n hq
   rw [Nat.succ_eq_add_one,Nat.mul_add,Nat.mul_one] at this
   omega
  ·obtain ⟨i1,i2⟩:=u_lt hns d hq
   refine ⟨?_,?_⟩
   ·have e1:=Nat.div_add_mod a n
    have e2:=Nat.div_add_mod b n
    have:=Nat.mul_lt_mul_of_pos_left i1 hn0
    omega
   ·have e2:=Nat.div_add_mod b n
    have hm:=Nat.mod_lt b hn0
    have:=Nat.mul_le_mul_left n i2
    rw [Nat.succ_eq_add_one,Nat.mul_add,Nat.mul_one] at this
    omega
def dst (a b : Nat) : Nat:=(a - b) + (b - a)
def apt : List Nat→Nat→Nat→Nat
 | [],_,_=>0
 | n :: ns,o,p=>dst (o % n) (p % n) + apt ns (o / n) (p / n)
theorem kB : ∀ {ns : List Nat} {o p : Nat},(∀ x∈ns,0 < x)→o < pr ns→p < pr ns→(apt ns o p = 0↔o = p)
 | [],o,p,_,ho,hp=>by
  have h1 : o < 1:=ho
  have h2 : p < 1:=hp
  exact ⟨fun _=>by omega,fun _=>rfl⟩
 | n :: ns,o,p,hn,ho,hp=>by
  have hns : ∀ n∈ns,0 < n:=fun x hx=>hn x (List.mem_cons_of_mem _ hx)
  have ih:=kB (o:=o / n) (p:=p / n) hns (Nat.div_lt_of_lt_mul ho) (Nat.div_lt_of_lt_mul hp)
  show dst (o % n) (p % n) + apt ns (o / n) (p / n) = 0↔o = p
  constructor
  ·intro z
   exact aEG (ih.mp (by omega)) (by unfold dst at z; omega)
  ·rintro rfl
   rw [ih.mpr rfl]; unfold dst; omega
theorem lY : ∀ {ns : List Nat} {o p : Nat},(∀ x∈ns,0 < x)→o < pr ns→p < pr ns→(apt ns o p = 1↔U ns o p∨U ns p o)
 | [],o,p,_,_,_=>⟨fun h=>(nomatch (show (0 : Nat) = 1 from h)),fun h=>h.elim (fun z=>z.elim) (fun z=>z.elim)⟩
 | n :: ns,o,p,hn,ho,hp=>by
  have hn0:=hn n List.mem_cons_self
  have hns : ∀ n∈ns,0 < n:=fun x hx=>hn x (List.mem_cons_of_mem _ hx)
  have ho':=Nat.div_lt_of_lt_mul (show o < n * pr ns from ho)
  have hp':=Nat.div_lt_of_lt_mul (show p < n * pr ns from hp)
  have ih:=lY (o:=o / n) (p:=p / n) hns ho' hp'
  have iz:=kB (o:=o / n) (p:=p / n) hns ho' hp'
  have lo:=Nat.mod_lt o hn0
  have lp:=Nat.mod_lt p hn0
  rw [lE hn,lE hn]
  show dst (o % n) (p % n) + apt ns (o / n) (p / n) = 1↔_
  constructor
  ·intro z
   by_cases c : apt ns (o / n) (p / n) = 0
   ·have hq:=iz.mp c
    have e1:=Nat.div_add_mod o n
    have e2:=Nat.div_add_mod p n
    rw [c] at z
    rw [hq] at e1
    unfold dst at z
    by_cases d : o % n < p % n
    ·exact .inl (.inl ⟨by omega,by omega⟩)
    ·exact .inr (.inl ⟨by omega,by omega⟩)
   ·have c1 : apt ns (o / n) (p / n) = 1:=by omega
    have d0 : o % n = p % n:=by unfold dst at z; omega
    rcases ih.mp c1 with u | u
    ·exact .inl (.inr ⟨d0,u⟩)
    ·exact .inr (.inr ⟨d0.symm,u⟩)
  ·rintro ((⟨c,rfl⟩ | ⟨c,u⟩) | (⟨c,rfl⟩ | ⟨c,u⟩))
   ·obtain ⟨q1,q2⟩:=jZ c
    rw [q1,q2,(kB hns ho' ho').mpr rfl]; unfold dst; omega
   ·rw [ih.mpr (.inl u),c]; unfold dst; omega
   ·obtain ⟨q1,q2⟩:=jZ c
    rw [q1,q2,(kB hns hp' hp').mpr rfl]; unfold dst; omega
   ·rw [ih.mpr (.inr u),c]; unfold dst; omega
theorem aAK : ∀ {ns : List Nat} {v : Nat},(∀ x∈ns,0 < x)→0 < v→v < pr ns→∃ u,u < v∧U ns u v
 | [],v,_,h1,h2=>by have h2 : v < 1:=h2; omega
 | n :: ns,v,hn,h1,h2=>by
  have hn0:=hn n List.mem_cons_self
  have hns : ∀ n∈ns,0 < n:=fun x hx=>hn x (List.mem_cons_of_mem _ hx)
  have lv:=Nat.mod_lt v hn0
  have ev:=Nat.div_add_mod v n
  by_cases c : v % n = 0
  ·have hq : 0 < v / n:=by
    rcases Nat.eq_zero_or_pos (v / n) with z | z
    ·rw [z,c] at ev; simp at ev; omega
    ·exact z
   obtain ⟨u,hu,uu⟩:=aAK (v:=v / n) hns hq (Nat.div_lt_of_lt_mul h2)
   refine ⟨n * u,?_,(lE hn).mpr (.inr ⟨by rw [Nat.mul_mod_right,c],by rw [Nat.mul_div_cancel_left _ hn0]; exact uu⟩)⟩
   have:=Nat.mul_lt_mul_of_pos_left hu hn0
   omega
  ·have hv : v - 1 = n * (v / n) + (v % n - 1):=by omega
   have hm : (v - 1) % n = v % n - 1:=by rw [hv,Nat.mul_add_mod,Nat.mod_eq_of_lt (by omega)]
   exact ⟨v - 1,by omega,(lE hn).mpr (.inl ⟨by omega,by omega⟩)⟩
end NetM
namespace NetM
theorem wS : ∀ {ns : List Nat} {st a b : Nat},(∀ x∈ns,0 < x)→UpS st ns a b→a + st ≤ b
 | [],st,a,b,_,h=>h.elim
 | n :: ns,st,a,b,hn,h=>by
  rcases h with ⟨_,rfl⟩ | h
  ·exact Nat.le_refl _
  ·have:=wS (fun x hx=>hn x (List.mem_cons_of_mem _ hx)) h
   have h1:=Nat.le_mul_of_pos_right st (hn n List.mem_cons_self)
   omega
theorem aAL {m st n : Nat} : (bxr m st n).Nodup:=by
 unfold bxr
 refine List.nodup_iff_pairwise_ne.mpr (List.pairwise_map.mpr ?_)
 exact (List.nodup_iff_pairwise_ne.mp (List.nodup_range.sublist List.filter_sublist)).imp fun {a b} h e=>h (congrArg Prod.fst e)
theorem tR {m : Nat} : ∀ {ns : List Nat} {st : Nat},0 < st→(∀ x∈ns,2 ≤ x)→(bx m st ns).Nodup
 | [],_,_,_=>List.nodup_nil
 | n :: ns,st,h,hn=>by
  have hn2:=hn n List.mem_cons_self
  have hns : ∀ x∈ns,2 ≤ x:=fun x hx=>hn x (List.mem_cons_of_mem _ hx)
  refine List.nodup_append.mpr ⟨aAL,tR (Nat.mul_pos h (by omega)) hns,fun x hx y hy e=>?_⟩
  subst e
  have h1:=(wR.mp hx).2.2
  have h2:=wS (fun x hx=>by have:=hns x hx; omega) (lD.mp hy).2
  have h3:=Nat.mul_le_mul_left st hn2
  omega
theorem aAM {ps : Ts} (nd : ps.Nodup) (h : ∀ u∈ps,u.1 < u.2) : (dbl ps).Nodup:=by
 refine (iG (ps:=ps)).nodup_iff.mpr (List.nodup_append.mpr ⟨nd,?_,fun x hx y hy e=>?_⟩)
 ·refine List.nodup_iff_pairwise_ne.mpr (List.pairwise_map.mpr ((List.nodup_iff_pairwise_ne.mp nd).imp fun {a b} hab e=>hab ?_))
  exact Prod.ext (congrArg Prod.snd e) (congrArg Prod.fst e)
 ·subst e
  obtain ⟨u,hu,rfl⟩:=List.mem_map.mp hy
  have h1:=h _ hx
  have h2:=h u hu
  have h1 : u.2 < u.1:=h1
  omega
theorem aAN {qs : List (Nat × Nat)} (h : qs.Nodup) : (qs.map ci2).Nodup:=by
 refine List.nodup_iff_pairwise_ne.mpr (List.pairwise_map.mpr ((List.nodup_iff_pairwise_ne.mp h).imp fun {a b} hab e=>hab ?_))
 exact Prod.ext (Int.ofNat.inj (congrArg Prod.fst e)) (Int.ofNat.inj (congrArg Prod.snd e))
theorem mU {h : Nat} : ∀ {a b : List (Nat × Nat)},cntB h (a ++ b) = cntB h a + cntB h b
 | [],b=>by show cntB h b = 0 + _; omega
 | q :: a,b=>by
  have:=mU (h:=h) (a:=a) (b:=b)
  show b1 _ + (b1 _ + cntB h (a ++ b)) = b1 _ + (b1 _ + cntB h a) + cntB h b
  omega
theorem aCm {a b : Nat} : b1 (Nat.beq a b) = if a = b then 1 else 0:=by
 by_cases c : a = b
 ·subst c; rw [if_pos rfl,Nat.beq_refl]; rfl
 ·rw [if_neg c,show Nat.beq a b = false from Bool.eq_false_iff.mpr fun z=>c (Nat.eq_of_beq_eq_true z)]; rfl
theorem wT {h st : Nat} : ∀ {L : List Nat},L.Nodup→cntB h (L.map fun x=>(x,x + st)) ≤ (if h∈L then 1 else 0) + (if st ≤ h∧h - st∈L then 1 else 0)
 | [],_=>Nat.zero_le _
 | x :: L,nd=>by
  obtain ⟨n1,n2⟩:=List.nodup_cons.mp nd
  have ih:=wT (h:=h) (st:=st) n2
  show b1 (Nat.beq x h) + (b1 (Nat.beq (x + st) h) + cntB h (L.map fun x=>(x,x + st))) ≤ _
  rw [aCm,aCm]
  have e1 : (if h∈x :: L then 1 else 0) = (if x = h then 1 else 0) + (if h∈L then 1 else 0):=by
   by_cases c : x = h
   ·subst c; rw [if_pos List.mem_cons_self,if_pos rfl,if_neg n1]
   ·rw [if_neg c]
    by_cases d : h∈L
    ·rw [if_pos (List.mem_cons_of_mem _ d),if_pos d]
    ·rw [if_neg d,if_neg (fun z=>(List.mem_cons.mp z).elim (fun z=>c z.symm) d)]
  have e2 : (if st ≤ h∧h - st∈x :: L then 1 else 0) = (if x + st = h then 1 else 0) + (if st ≤ h∧h - st∈L then 1 else 0):=by
   by_cases c : x + st = h
   ·have e : h - st = x:=by omega
    rw [if_pos c,e,if_pos ⟨by omega,List.mem_cons_self⟩,if_neg (fun z=>n1 z.2)]
   ·rw [if_neg c]
    by_cases d : st ≤ h∧h - st∈L
    ·rw [if_pos d,if_pos ⟨d.1,List.mem_cons_of_mem _ d.2⟩]
    ·rw [if_neg d,if_neg]
     rintro ⟨z1,z2⟩
     rcases List.mem_cons.mp z2 with z | z
     ·omega
     ·exact d ⟨z1,z⟩
  rw [e1,e2]
  omega
def wt : List Nat→Nat
 | []=>0
 | n :: ns=>(if n = 2 then 1 else 2) + wt ns
theorem aC3 {m st n h : Nat} (hs : 0 < st) : cntB h (bxr m st n) ≤ if n = 2 then 1 else 2:=by
 have c:=wT (h:=h) (st:=st) (L:=(List.range m).filter fun h=>decide (h / st % n + 1 < n)) (List.nodup_range.sublist List.filter_sublist)
 refine Nat.le_trans c ?_
 by_cases e : n = 2
 ·rw [if_pos e]
  by_cases c1 : h∈(List.range m).filter fun h=>decide (h / st % n + 1 < n)
  ·rw [if_pos c1,if_neg]
   ·omega
   ·rintro ⟨z1,z2⟩
    have d1 : h / st % n + 1 < n:=of_decide_eq_true (List.mem_filter.mp c1).2
    have d2 : (h - st) / st % n + 1 < n:=of_decide_eq_true (List.mem_filter.mp z2).2
    have d3 : h / st = (h - st) / st + 1:=by
     have:=Nat.add_div_right (h - st) hs
     rw [show h - st + st = h by omega] at this
     exact this
    obtain ⟨_,d4⟩:=jZ d2
    rw [← d3] at d4
    omega
  ·rw [if_neg c1]; split <;> omega
 ·rw [if_neg e]; split <;> split <;> omega
theorem aAO {m h : Nat} : ∀ {ns : List Nat} {st : Nat},0 < st→(∀ x∈ns,0 < x)→cntB h (bx m st ns) ≤ wt ns
 | [],_,_,_=>Nat.le_refl _
 | n :: ns,st,hs,hn=>by
  show cntB h (bxr m st n ++ bx m (st * n) ns) ≤ _ + wt ns
  rw [mU]
  have h1:=aC3 (m:=m) (n:=n) (h:=h) hs
  have h2:=aAO (m:=m) (h:=h) (ns:=ns) (st:=st * n) (Nat.mul_pos hs (hn n List.mem_cons_self)) fun x hx=>hn x (List.mem_cons_of_mem _ hx)
  omega
theorem aAP : ∀ {ns : List Nat},(∀ x∈ns,2 ≤ x)→3 ^ wt ns ≤ pr ns * pr ns
 | [],_=>Nat.le_refl _
 | n :: ns,hn=>by
  have ih:=aAP (ns:=ns) fun x hx=>hn x (List.mem_cons_of_mem _ hx)
  have h2:=hn n List.mem_cons_self
  show 3 ^ ((if n = 2 then 1 else 2) + wt ns) ≤ n * pr ns * (n * pr ns)
  rw [Nat.pow_add,Nat.mul_mul_mul_comm]
  refine Nat.mul_le_mul ?_ ih
  by_cases c : n = 2
  ·rw [if_pos c,c]; decide
  ·rw [if_neg c]
   have : 3 ≤ n:=by omega
   exact Nat.mul_le_mul this this
theorem aEH {ns : List Nat} (hn : ∀ x∈ns,2 ≤ x) (hp : pr ns ≤ 32) : wt ns ≤ 8:=by
 refine Classical.byContradiction fun z=>?_
 have h1 : 3 ^ 9 ≤ 3 ^ wt ns:=Nat.pow_le_pow_right (by decide) (by omega)
 have h2:=aAP hn
 have h3 : pr ns * pr ns ≤ 32 * 32:=Nat.mul_le_mul hp hp
 have h4 : (3 : Nat) ^ 9 = 19683:=by decide
 omega
theorem tT {ns : List Nat} (hn : ∀ x∈ns,2 ≤ x) (h0 : ns ≠ []) (hp : pr ns ≤ 32) : Fine (pr ns) (dbl ((boxQ ns).map ci2)):=by
 have hpos : ∀ x∈ns,0 < x:=fun x hx=>by have:=hn x hx; omega
 have q : ∀ q∈boxQ ns,q.1 < q.2∧q.2 < pr ns:=fun q hq=>by
  obtain ⟨a,b⟩:=lD.mp hq
  exact u_lt hpos b a
 have n1 : 2 ≤ pr ns:=by
  cases ns with
  | nil=>exact absurd rfl h0
  | cons n ns =>
   have h2:=hn n List.mem_cons_self
   have : ∀ {l : List Nat},(∀ x∈l,2 ≤ x)→1 ≤ pr l:=fun {l}=>by
    induction l with
    | nil=>intro _; exact Nat.le_refl _
    | cons x l ih=>intro hl; exact Nat.mul_pos (by have:=hl x List.mem_cons_self; omega) (ih fun y hy=>hl y (List.mem_cons_of_mem _ hy))
   have h3:=this (l:=ns) fun x hx=>hn x (List.mem_cons_of_mem _ hx)
   show 2 ≤ n * pr ns
   exact Nat.le_trans h2 (Nat.le_mul_of_pos_right n h3)
 have mem : ∀ t∈dbl ((boxQ ns).map ci2),∃ q∈boxQ ns,t = ci2 q∨t = swp (ci2 q):=fun t ht=>by
  rcases pR.mp ht with z | z
  ·obtain ⟨q,hq,e⟩:=List.mem_map.mp z; exact ⟨q,hq,.inl e.symm⟩
  ·obtain ⟨q,hq,e⟩:=List.mem_map.mp z; exact ⟨q,hq,.inr (by rw [e])⟩
 have rg : ∀ t∈dbl ((boxQ ns).map ci2),((0 ≤ t.1∧t.1 < pr ns)∧(0 ≤ t.2∧t.2 < pr ns))∧t.1 ≠ t.2:=fun t ht=>by
  obtain ⟨p,hq,e⟩:=mem t ht
  obtain ⟨a,b⟩:=q p hq
  rcases e with rfl | rfl
  ·exact ⟨⟨⟨by show (0 : Int) ≤ (p.1 : Int); omega,by show (p.1 : Int) < (pr ns : Int); omega⟩,by show (0 : Int) ≤ (p.2 : Int); omega,by show (p.2 : Int) < (pr ns : Int); omega⟩,by show ((p.1 : Nat) : Int) ≠ (p.2 : Nat); omega⟩
  ·exact ⟨⟨⟨by show (0 : Int) ≤ (p.2 : Int); omega,by show (p.2 : Int) < (pr ns : Int); omega⟩,by show (0 : Int) ≤ (p.1 : Int); omega,by show (p.1 : Int) < (pr ns : Int); omega⟩,by show ((p.2 : Nat) : Int) ≠ (p.1 : Nat); omega⟩
 have nd : (dbl ((boxQ ns).map ci2)).Nodup:=aAM (aAN (tR (by decide) hn)) fun u hu=>by
  obtain ⟨p,hq,rfl⟩:=List.mem_map.mp hu
  have:=(q p hq).1
  show (p.1 : Int) < (p.2 : Int)
  omega
 refine ⟨n1,hp,nd,fun t ht=>(rg t ht).1,fun t ht=>(rg t ht).2,fun h=>?_,fun h=>?_,fun a b ha hb=>?_⟩
 ·rw [← (aC2 (ps:=(boxQ ns).map ci2)).filter (fun t=>decide (t.1 = h)) |>.length_eq,List.filter_map,List.length_map]
  rfl
 ·by_cases c : 0 ≤ h∧h < pr ns
  ·have:=aAO (m:=pr ns) (h:=h.toNat) (ns:=ns) (st:=1) (by decide) hpos
   have e:=wQ (h:=h.toNat) (qs:=boxQ ns)
   rw [Int.toNat_of_nonneg c.1] at e
   rw [e]
   exact Nat.le_trans this (aEH hn hp)
  ·have e : (dbl ((boxQ ns).map ci2)).filter (fun t=>decide (t.1 = h)) = []:=List.filter_eq_nil_iff.mpr fun t ht e=>c ((show t.1 = h from of_decide_eq_true e) ▸ (rg t ht).1.1)
   rw [e]; exact Nat.zero_le _
 ·have both : ∀ v,v < pr ns→(∃ k,Walk (dbl ((boxQ ns).map ci2)) k 0 v)∧∃ k,Walk (dbl ((boxQ ns).map ci2)) k v 0:=by
   intro v
   induction v using Nat.strongRecOn with
   | ind v ih =>
    intro hv
    rcases Nat.eq_zero_or_pos v with e | e
    ·subst e; exact ⟨⟨0,rfl⟩,0,rfl⟩
    ·obtain ⟨u,hu,uu⟩:=aAK hpos e hv
     obtain ⟨⟨k,w⟩,l,w'⟩:=ih u hu (by omega)
     have t : T (dbl ((boxQ ns).map ci2)) u v:=pR.mpr (.inl (List.mem_map.mpr ⟨(u,v),lD.mpr ⟨by show u < pr ns; omega,uu⟩,rfl⟩))
     have t' : T (dbl ((boxQ ns).map ci2)) v u:=wP t
     exact ⟨⟨k + 1,u,w,t⟩,l + 1,Walk.cons t' w'⟩
  obtain ⟨_,k,w⟩:=both a ha
  obtain ⟨⟨l,w'⟩,_⟩:=both b hb
  exact ⟨_,w.trans w'⟩
def boxO (ns : List Nat) (m o : Nat) : Ts:=((List.range m).filter fun p=>decide (apt ns o p = 1)).map fun (p : Nat)=>((o : Int),(p : Int))
def boxL (ns : List Nat) (k m : Nat) : Ts:=(List.range k).flatMap (boxO ns m)
theorem aC4 {ns : List Nat} (hn : ∀ x∈ns,2 ≤ x) {t : Int × Int} : t∈boxL ns (pr ns) (pr ns)↔t∈dbl ((boxQ ns).map ci2):=by
 have hpos : ∀ x∈ns,0 < x:=fun x hx=>by have:=hn x hx; omega
 have inQ : ∀ {a b : Nat},(a,b)∈boxQ ns↔a < pr ns∧U ns a b:=lD
 unfold boxL boxO
 rw [List.mem_flatMap,pR]
 constructor
 ·rintro ⟨o,ho,ht⟩
  obtain ⟨p,hp,rfl⟩:=List.mem_map.mp ht
  have ho:=List.mem_range.mp ho
  obtain ⟨h1,h2⟩:=List.mem_filter.mp hp
  have h1:=List.mem_range.mp h1
  rcases (lY hpos ho h1).mp (of_decide_eq_true h2) with u | u
  ·exact .inl (List.mem_map.mpr ⟨(o,p),inQ.mpr ⟨ho,u⟩,rfl⟩)
  ·exact .inr (List.mem_map.mpr ⟨(p,o),inQ.mpr ⟨h1,u⟩,rfl⟩)
 ·rintro (h | h)
  ·obtain ⟨⟨a,b⟩,hq,rfl⟩:=List.mem_map.mp h
   obtain ⟨ha,u⟩:=inQ.mp hq
   obtain ⟨_,hb⟩:=u_lt hpos u ha
   exact ⟨a,List.mem_range.mpr ha,List.mem_map.mpr ⟨b,List.mem_filter.mpr ⟨List.mem_range.mpr hb,decide_eq_true ((lY hpos ha hb).mpr (.inl u))⟩,rfl⟩⟩
  ·obtain ⟨⟨a,b⟩,hq,e⟩:=List.mem_map.mp h
   obtain ⟨ha,u⟩:=inQ.mp hq
   obtain ⟨_,hb⟩:=u_lt hpos u ha
   refine ⟨b,List.mem_range.mpr hb,List.mem_map.mpr ⟨a,List.mem_filter.mpr ⟨List.mem_range.mpr ha,decide_eq_true ((lY hpos hb ha).mpr (.inr u))⟩,?_⟩⟩
   have e1 : (a : Int) = t.2:=congrArg Prod.fst e
   have e2 : (b : Int) = t.1:=congrArg Prod.snd e
   exact Prod.ext e2 e1
theorem oT {ns : List Nat} {m : Nat} (hm : m ≤ 32) : ∀ k,(boxL ns k m).Pairwise fun u v=>64 * u.1 + u.2 < 64 * v.1 + v.2
 | 0=>List.Pairwise.nil
 | k + 1=>by
  unfold boxL
  rw [List.range_succ,List.flatMap_append]
  refine List.pairwise_append.mpr ⟨oT hm k,?_,fun u hu v hv=>?_⟩
  ·simp only [List.flatMap_cons,List.flatMap_nil,List.append_nil]
   unfold boxO
   refine List.pairwise_map.mpr ((List.pairwise_lt_range.sublist List.filter_sublist).imp fun {a b} h=>?_)
   show 64 * (k : Int) + (a : Int) < 64 * (k : Int) + (b : Int)
   omega
  ·simp only [List.flatMap_cons,List.flatMap_nil,List.append_nil] at hv
   obtain ⟨o,ho,hu⟩:=List.mem_flatMap.mp hu
   have ho:=List.mem_range.mp ho
   obtain ⟨p,hp,rfl⟩:=List.mem_map.mp hu
   obtain ⟨p',hp',rfl⟩:=List.mem_map.mp hv
   have h1:=List.mem_range.mp (List.mem_filter.mp hp).1
   show 64 * (o : Int) + (p : Int) < 64 * (k : Int) + (p' : Int)
   omega
end NetM
namespace K12
open PySem L2
def top (i : Nat) : Stmt:=PySem.Challenge.pw_neverwait_k13_boxes.main.body.getD i (.Pass ⟨0,0,0,0⟩)
abbrev tU : Stmt:=top 15
abbrev pT : Stmt:=top 16
abbrev tV : Stmt:=top 17
abbrev sRow : Stmt:=top 19
structure Bl (mg : Str→Option Value) : Prop where
 isi : mg "isinstance" = none
 int : mg "int" = none
 bool : mg "bool" = none
 tup : mg "tuple" = none
 lst : mg "list" = none
 str : mg "str" = none
 set : mg "set" = none
 len : mg "len" = none
 range : mg "range" = none
 sorted : mg "sorted" = none
 any : mg "any" = none
 max : mg "max" = none
 min : mg "min" = none
 verr : mg "ValueError" = none
 all : mg "all" = none
def aBN (K : W.Frag) (H : Hp) (x : V) : Prop:=∃ t,TyX K H x t∧(W.kitOne K t (.type "int") = some false∨(W.kitOne K t (.type "int") = some true∧W.kitOne K t (.type "bool") = some true))
theorem mV {K : W.Frag} : W.kitOne K (.type "int") (.type "int") = some true:=by kernel_rfl
theorem lF {K : W.Frag} : W.kitOne K (.type "int") (.type "bool") = some false:=by kernel_rfl
inductive Wh (K : W.Frag) (H : Hp) : V→Option Int→Prop where
 | int (i : Int) : Wh K H (.int i) (some i)
 | no {x : V} (h : aBN K H x) : Wh K H x none
def pU (K : W.Frag) : Sp:=fun vs H Q _=>∃ x o,vs = [x]∧Wh K H x o∧Q (.bl o.isSome) H
section
variable {P : Program} {w : World} {K : W.Frag} {mg : Str→Option Value} {base : Heap}
theorem aC5 : aM ["thing"] ["thing"] (aG tU):=⟨rfl,rfl,rfl,by decide +kernel,rfl,by decide +kernel,by decide +kernel⟩
theorem aBO {f : Addr} {fd : FuncData} (F : Fun K "is_whole" "is_whole" tU f fd) (B : Bl mg) : FnOk P w K mg base CX0 1 f fd ["thing"] (pU K):=by
 refine F.ok aC5 (fun vs H Q E h=>?_) (fun cdv A outer s H vs Q E hr h=>?_)
 ·obtain ⟨x,o,rfl,_⟩:=h
  rfl
 ·obtain ⟨x,o,rfl,W,k⟩:=h
  refine ⟨_,aI (aU (eK (aO dD (by rfl) B.isi PyProof.Rows.boot_isinstance (aA (pv 0) (aA (dR (v:=.ty "int") rfl B.int PyProof.Rows.boot_int rfl) aB)))
   (gG (zL (aO dD (by rfl) B.isi PyProof.Rows.boot_isinstance (aA (pv 0) (aA (dR (v:=.ty "bool") rfl B.bool PyProof.Rows.boot_bool rfl) aB))))))),?_⟩
  cases W with
  | int i =>
   refine ⟨_,rfl,_,_,_,.type "int",true,rfl,⟨rfl,mV⟩,.of (.int _),true,rfl,?_⟩
   exact ⟨_,rfl,_,_,_,.type "int",false,rfl,⟨rfl,lF⟩,.of (.int _),false,rfl,k⟩
  | no h =>
   obtain ⟨t,ty,h | ⟨h1,h2⟩⟩:=h
   ·exact ⟨_,rfl,_,_,_,t,false,rfl,⟨rfl,h⟩,ty,false,rfl,k⟩
   ·refine ⟨_,rfl,_,_,_,t,true,rfl,⟨rfl,h1⟩,ty,true,rfl,?_⟩
    exact ⟨_,rfl,_,_,_,t,true,rfl,⟨rfl,h2⟩,ty,true,rfl,k⟩
end
section
variable {P : Program} {w : World} {K : W.Frag} {mg : Str→Option Value} {base : Heap}
def aT (o : Option Int) (lo hi : Int) : Bool:=match o with
 | some i=>decide (lo ≤ i) && decide (i ≤ hi)
 | none=>false
def iH (K : W.Frag) : Sp:=fun vs H Q _=>∃ x o lo hi,vs = [x,.int lo,.int hi]∧Wh K H x o∧Q (.bl (aT o lo hi)) H
theorem aBP : aM ["thing", "least", "most"] ["thing", "least", "most"] (aG pT):=⟨rfl,rfl,rfl,by decide +kernel,rfl,by decide +kernel,by decide +kernel⟩
theorem aAQ {f : Addr} {fd : FuncData} (F : Fun K "is_whole_within" "is_whole_within" pT f fd) (W : Cal P w K mg base CX0 1 "is_whole" ["thing"] (pU K)) : FnOk P w K mg base CX0 2 f fd ["thing", "least", "most"] (iH K):=by
 refine F.ok aBP (fun vs H Q E h=>?_) (fun cdv A outer s H vs Q E hr h=>?_)
 ·obtain ⟨x,o,lo,hi,rfl,_⟩:=h
  rfl
 ·obtain ⟨x,o,lo,hi,rfl,wh,k⟩:=h
  refine ⟨_,aI (aU (eK (aQ W hr aR (aA (pv 0) aB)) (gG (sJ jP jP (pv 1) (pv 0) (pv 2))))),?_⟩
  refine ⟨_,rfl,x,o,rfl,wh,?_⟩
  cases wh with
  | no h=>exact ⟨false,rfl,k⟩
  | int i =>
   refine ⟨true,rfl,_,rfl,_,rfl,_,_,rfl,rfl,_,rfl,?_⟩
   show if decide (lo ≤ i) = true then _ else _
   have k' : Q (.bl (decide (lo ≤ i) && decide (i ≤ hi))) H:=k
   by_cases h : lo ≤ i
   ·rw [decide_eq_true h] at k' ⊢
    exact ⟨_,rfl,_,_,rfl,rfl,k'⟩
   ·rw [decide_eq_false h] at k' ⊢
    exact k'
def lZ (K : W.Frag) : Sp:=fun vs H Q _=>∃ x o n,vs = [.int n,x]∧Wh K H x o∧Q (.bl (aT o 0 (n - 1))) H
theorem aC6 : aM ["many", "thing"] ["many", "thing"] (aG tV):=⟨rfl,rfl,rfl,by decide +kernel,rfl,by decide +kernel,by decide +kernel⟩
theorem aBQ {f : Addr} {fd : FuncData} (F : Fun K "is_house" "is_house" tV f fd) (W : Cal P w K mg base CX0 2 "is_whole_within" ["thing", "least", "most"] (iH K)) : FnOk P w K mg base CX0 3 f fd ["many", "thing"] (lZ K):=by
 refine F.ok aC6 (fun vs H Q E h=>?_) (fun cdv A outer s H vs Q E hr h=>?_)
 ·obtain ⟨x,o,n,rfl,_⟩:=h
  rfl
 ·obtain ⟨x,o,n,rfl,wh,k⟩:=h
  refine ⟨_,aI (aU (aQ W hr aR (aA (pv 1) (aA aK (aA (aV gI (pv 0) aK) aB))))),?_⟩
  exact ⟨_,rfl,_,rfl,_,_,rfl,rfl,x,o,0,n - 1,rfl,wh,k⟩
inductive Rw (K : W.Frag) (H : Hp) : V→Option (List V)→Prop where
 | tup {p : Addr} {xs : List V} (h : H p = some (.tup xs)) : Rw K H (.ref p) (some xs)
 | no {x : V} {t : Value} (ty : TyX K H x t) (h : W.kitOne K t (.type "tuple") = some false) : Rw K H x none
def aEI (o : Option (List V)) (m : Int) : Bool:=match o with
 | some xs=>decide ((xs.length : Int) = m)
 | none=>false
theorem pV {K : W.Frag} : W.kitOne K (.type "tuple") (.type "tuple") = some true:=by kernel_rfl
def rS (K : W.Frag) : Sp:=fun vs H Q _=>∃ x o m,vs = [x,.int m]∧Rw K H x o∧Q (.bl (aEI o m)) H
theorem aEJ : aM ["thing", "length"] ["thing", "length"] (aG sRow):=⟨rfl,rfl,rfl,by decide +kernel,rfl,by decide +kernel,by decide +kernel⟩
theorem aD4 {f : Addr} {fd : FuncData} (F : Fun K "is_row" "is_row" sRow f fd) (B : Bl mg) : FnOk P w K mg base CX0 1 f fd ["thing", "length"] (rS K):=by
 refine F.ok aEJ (fun vs H Q E h=>?_) (fun cdv A outer s H vs Q E hr h=>?_)
 ·obtain ⟨x,o,m,rfl,_⟩:=h
  rfl
 ·obtain ⟨x,o,m,rfl,W,k⟩:=h
  refine ⟨_,aI (aU (eK (aO dD (by rfl) B.isi PyProof.Rows.boot_isinstance (aA (pv 0) (aA (dR (v:=.ty "tuple") rfl B.tup PyProof.Rows.boot_tuple rfl) aB)))
   (gG (hG fD (aO bV (by rfl) B.len PySem.boot_len (aA (pv 0) aB)) (pv 1) (bB _))))),?_⟩
  cases W with
  | @tup p xs h =>
   refine ⟨_,rfl,_,_,_,.type "tuple",true,rfl,⟨rfl,pV⟩,.of (.tup h),true,rfl,?_⟩
   refine ⟨_,rfl,_,_,rfl,.inr (SqT.of h),_,rfl,rfl,?_⟩
   have e : decide (V.int ((xs.length : Nat) : Int) = V.int m) = decide (((xs.length : Nat) : Int) = m):=by simp
   rw [e]
   exact k
  | no ty h=>exact ⟨_,rfl,_,_,_,_,false,rfl,⟨rfl,h⟩,ty,false,rfl,k⟩
end
end K12
namespace K12
open PySem L2
theorem bP {D : Addr} {H H' : Hp} {o : HO} (s : Same H H') (hD : H D = none) : Same H (upd H' D o):=fun b u e=>by rw [aH (aJ e hD)]; exact s b u e
abbrev IV (ns : List Int) : List V:=ns.map V.int
abbrev NV (ns : List Nat) : List V:=ns.map fun (x : Nat)=>V.int (x : Int)
abbrev Zs:=List (Addr × (Int × Int))
abbrev prT (u : Int × Int) : HO:=.tup [.int u.1,.int u.2]
def zr (zs : Zs) : List V:=zs.map fun z=>V.ref z.1
def zp (zs : Zs) : List (Int × Int):=zs.map (·.2)
def PO (H : Hp) (zs : Zs) : Prop:=∀ z∈zs,H z.1 = some (prT z.2)
theorem rF {a b : Zs} : zr (a ++ b) = zr a ++ zr b:=List.map_append
theorem rG {a b : Zs} : zp (a ++ b) = zp a ++ zp b:=List.map_append
theorem dB {a : Zs} : (zr a).length = a.length:=List.length_map _
theorem bK {a : Zs} : (zp a).length = a.length:=List.length_map _
theorem mB {a : Zs} : zr a = (a.map (·.1)).map V.ref:=by unfold zr; rw [List.map_map]; rfl
theorem jH {zs : Zs} {i : Nat} {x : V} (h : (zr zs)[i]? = some x) : ∃ z,zs[i]? = some z∧x = .ref z.1:=by
 unfold zr at h
 rw [List.getElem?_map] at h
 cases e : zs[i]? with
 | none=>rw [e] at h; cases h
 | some z=>rw [e] at h; exact ⟨z,rfl,(Option.some.inj h).symm⟩
theorem PO.nil {H : Hp} : PO H []:=fun z hz=>(nomatch hz)
theorem PO.same {H H' : Hp} {zs : Zs} (h : PO H zs) (s : Same H H') : PO H' zs:=fun z hz=>s _ _ (h z hz)
theorem PO.putL {H : Hp} {D : Addr} {xs : List V} {o : HO} {zs : Zs} (h : PO H zs) (e : H D = some (.lst xs)) : PO (upd H D o) zs:=fun z hz=>by
 have:=h z hz
 rw [aH (by rintro rfl; rw [e] at this; cases this)]; exact this
theorem PO.putN {H : Hp} {D : Addr} {o : HO} {zs : Zs} (h : PO H zs) (e : H D = none) : PO (upd H D o) zs:=h.same (aF e)
theorem PO.append {H : Hp} {a b : Zs} (h : PO H a) (h' : PO H b) : PO H (a ++ b):=fun z hz=>(List.mem_append.mp hz).elim (h z) (h' z)
theorem PO.one {H : Hp} {p : Addr} {u : Int × Int} (h : H p = some (prT u)) : PO H [(p,u)]:=fun z hz=>by rw [List.mem_singleton.mp hz]; exact h
theorem tW {zs : Zs} {i : Nat} (h : i < zs.length) : (zs.map (·.1)).getD i 0 = zs[i].1:=by
 rw [List.getD_eq_getElem?_getD,List.getElem?_map,List.getElem?_eq_getElem h]; rfl
theorem wU {zs : Zs} {i : Nat} (h : i < zs.length) : (zp zs).getD i (0,0) = zs[i].2:=by
 unfold zp
 rw [List.getD_eq_getElem?_getD,List.getElem?_map,List.getElem?_eq_getElem h]; rfl
theorem aD5 {K : W.Frag} {neg : Bool} {H : Hp} {p l : Addr} {u : Int × Int} {zs : Zs} {Q : VK} (hp : H p = some (prT u)) (hl : H l = some (.lst (zr zs))) (ho : PO H zs) (q : Q (.bl (if neg then !decide (u∈zp zs) else decide (u∈zp zs))) H) : rInP K neg (.ref p) (.ref l) H Q :=
 ⟨p,l,u,zs.map (·.1),zp zs,rfl,rfl,SqT.of hp,SqL.of (by rw [← mB]; exact hl),by rw [List.length_map,bK],fun i hi=>by
  rw [bK] at hi
  rw [tW hi,wU hi]
  exact SqT.of (ho _ (List.getElem_mem hi)),q⟩
theorem aAR {H : Hp} {zs : Zs} (ho : PO H zs) : ∃ g : Addr→Int × Int,(∀ z∈zs,g z.1 = z.2)∧∀ {as : List Addr},as.Perm (zs.map (·.1))→∃ zs' : Zs,zs'.Perm zs∧as = zs'.map (·.1):=by
 classical
 let f : Addr→Int × Int:=fun a=>match H a with
  | some (.tup [.int x,.int y])=>(x,y)
  | _=>(0,0)
 have e2 : ∀ z∈zs,f z.1 = z.2:=fun z hz=>by
  show (match H z.1 with | some (.tup [.int x,.int y])=>(x,y) | _=>(0,0)) = z.2
  rw [ho z hz]
 have e : (zs.map (·.1)).map (fun a=>(a,f a)) = zs:=by
  rw [List.map_map]
  conv=>rhs; rw [← List.map_id zs]
  refine List.map_congr_left fun z hz=>?_
  show (z.1,f z.1) = z
  rw [e2 z hz]
 refine ⟨f,e2,fun {as} h=>⟨as.map fun a=>(a,f a),?_,?_⟩⟩
 ·have:=h.map (fun a=>(a,f a))
  rw [e] at this
  exact this
 ·rw [List.map_map]
  exact (List.map_id as).symm
abbrev Ord (us : List (Int × Int)) : Prop:=us.Pairwise fun u v=>pk u ≤ pk v
theorem aC7 {K : W.Frag} {H : Hp} {l : Addr} {zs : Zs} {Q : VK} (hl : H l = some (.lst (zr zs))) (ho : PO H zs) (hz : zs.length ≤ 4096) (hb : ∀ u∈zp zs,0 ≤ u.2∧u.2 < 64) (q : ∀ (D : Addr) (zs' : Zs),H D = none→zs'.Perm zs→Ord (zp zs')→Q (.ref D) (upd H D (.lst (zr zs')))) : aAG K [.ref l] H Q:=by
 obtain ⟨g,hg,lift⟩:=aAR ho
 refine ⟨l,zs.map (·.1),g,rfl,SqL.of (by rw [← mB]; exact hl),fun a ha=>?_,by rw [List.length_map]; exact hz,fun D as' hD hp so=>?_⟩
 ·obtain ⟨z,hz,rfl⟩:=List.mem_map.mp ha
  rw [hg z hz]
  exact ⟨SqT.of (ho z hz),hb _ (List.mem_map.mpr ⟨z,hz,rfl⟩)⟩
 ·obtain ⟨zs',h1,rfl⟩:=lift hp
  rw [← mB]
  refine q D zs' hD h1 ?_
  unfold zp Ord
  rw [List.pairwise_map] at so ⊢
  refine so.imp_of_mem fun {a b} ha hb h=>?_
  rw [hg a (h1.mem_iff.mp ha),hg b (h1.mem_iff.mp hb)] at h
  exact h
theorem aBR {K : W.Frag} {a D : Addr} {zs0 : Zs} {g : TG} {tt : TT} {te : TE} {fin : Hp→Prop} {σB : St} {H0 : Hp} (F : Int × Int→Int × Int) (shape : St→Prop) (ha : H0 a = some (.lst (zr zs0))) (hp0 : PO H0 zs0) (hD : H0 D = none) (hn : zs0.length ≤ 100000) (h0 : shape σB)
  (hs : ∀ z σ H (R : V→St→Hp→Prop) (Kf : St→Hp→Prop),z∈zs0→shape σ→H z.1 = some (prT z.2)→(∀ σ2 p,shape σ2→H p = none→R (.ref p) σ2 (upd H p (prT (F z.2))))→g (.ref z.1) σ H fun σ2 H2=>tt σ2 H2 fun b H3=>if b = true then te σ2 H3 fun v H4=>R v σ2 H4 else Kf σ2 H3)
  (hd : ∀ zs H,Same H0 H→H D = some (.lst (zr zs))→PO H zs→zp zs = (zp zs0).map F→(∀ z∈zs,H0 z.1 = none)→fin H) : gC (Itl K a) g tt te D fin σB (upd H0 D (.lst [])):=by
 refine cQ (xs:=zr zs0) (fun i ys σ H=>shape σ∧Same H0 H∧H D = some (.lst ys)∧∃ zs : Zs,ys = zr zs∧PO H zs∧zp zs = ((zp zs0).take i).map F∧∀ z∈zs,H0 z.1 = none) ⟨h0,aF hD,aD,[],rfl,PO.nil,rfl,fun z hz=>nomatch hz⟩ (fun i ys σ H _ z=>SqL.of (z.2.1 _ _ ha)) ?_ ?_
 ·rintro i x ys σ H Kt Kf hx ⟨sh,sm,hDl,zs,rfl,po,ep,fr⟩ kt kf
  obtain ⟨z,hz,rfl⟩:=jH hx
  have hi : i < zs0.length:=(List.getElem?_eq_some_iff.mp hz).1
  have hzm : z∈zs0:=List.mem_of_getElem? hz
  have hl : zs.length = i:=by rw [← bK,ep,List.length_map,List.length_take,bK]; omega
  refine hs z σ H Kt Kf hzm sh (sm _ _ (hp0 z hzm)) (fun σ2 p sh2 hp=>?_)
  ·have nD : D ≠ p:=aJ hDl hp
   refine kt _ _ _ (by rw [aH nD]; exact hDl) (by rw [dB,hl]; exact Nat.lt_of_lt_of_le hi (Nat.le_trans hn (by decide))) ⟨sh2,bP (sm.trans (aF hp)) hD,aD,zs ++ [(p,F z.2)],?_,?_,?_,?_⟩
   ·rw [rF]; rfl
   ·refine PO.putL (xs:=zr zs) ?_ (by rw [aH nD]; exact hDl)
    exact (po.putN hp).append (PO.one aD)
   ·have e2 : (zp zs0)[i]? = some z.2:=by unfold zp; rw [List.getElem?_map,hz]; rfl
    rw [rG,ep,List.take_add_one,e2,Option.toList_some,List.map_append]; rfl
   ·intro z hz
    rcases List.mem_append.mp hz with z' | z'
    ·exact fr z z'
    ·rw [List.mem_singleton.mp z']; exact sm.free hp
 ·rintro ys σ H ⟨_,sm,hDl,zs,rfl,po,ep,fr⟩
  rw [dB,← bK,List.take_length] at ep
  exact hd zs H sm hDl po ep fr
end K12
namespace K12
open PySem L2
open NetM
abbrev rT : Stmt:=eF (top 24) 0
abbrev yP : Stmt:=eF (top 24) 1
abbrev yQ : Stmt:=eF (top 24) 2
abbrev sOut : Stmt:=eF (top 24) 3
abbrev sFar : Stmt:=eF (top 24) 4
abbrev yR : Stmt:=eF (top 24) 5
abbrev yS : Stmt:=eF (top 24) 6
abbrev tX : Stmt:=eF (top 24) 8
structure Er (K : W.Frag) (mg : Str→Option Value) (x : Str) (C : Addr) : Prop where
 at_ : mg x = some (.ref C)
 ok : ECls K C
theorem n12 : ¬ (("house_count" : Str) = "tie_list"):=by decide +kernel
theorem n13 : ¬ (("house_count" : Str) = "out_lists"):=by decide +kernel
theorem n14 : ¬ (("house_count" : Str) = "distances"):=by decide +kernel
theorem n23 : ¬ (("tie_list" : Str) = "out_lists"):=by decide +kernel
theorem n24 : ¬ (("tie_list" : Str) = "distances"):=by decide +kernel
theorem n34 : ¬ (("out_lists" : Str) = "distances"):=by decide +kernel
def flds (n : Int) (tl ol ds : Addr) : List (Str × V):=putF "distances" (.ref ds) (putF "out_lists" (.ref ol) (putF "tie_list" (.ref tl) (putF "house_count" (.int n) [])))
theorem wV (n : Int) (tl ol ds : Addr) : (flds n tl ol ds).lookup ("house_count" : Str) = some (.int n):=by
 unfold flds
 rw [bC,if_neg n14,bC,if_neg n13,bC,if_neg n12,bC,if_pos rfl]
theorem pW (n : Int) (tl ol ds : Addr) : (flds n tl ol ds).lookup ("tie_list" : Str) = some (.ref tl):=by
 unfold flds
 rw [bC,if_neg n24,bC,if_neg n23,bC,if_pos rfl]
theorem eY (n : Int) (tl ol ds : Addr) {m : Str} (h1 : ¬ m = "house_count") (h2 : ¬ m = "tie_list") (h3 : ¬ m = "out_lists") (h4 : ¬ m = "distances") : (flds n tl ol ds).lookup m = none:=by
 unfold flds
 rw [bC,if_neg h4,bC,if_neg h3,bC,if_neg h2,bC,if_neg h1]
 all_goals rfl
theorem wW (n : Int) (tl ol ds : Addr) : (flds n tl ol ds).lookup ("out_lists" : Str) = some (.ref ol):=by
 unfold flds
 rw [bC,if_neg n34,bC,if_pos rfl]
theorem pX (n : Int) (tl ol ds : Addr) : (flds n tl ol ds).lookup ("distances" : Str) = some (.ref ds):=by
 unfold flds
 rw [bC,if_pos rfl]
def cI (H : Hp) (L : Addr→Prop) (l : Addr) (n : Nat) (r : Nat→List Nat) : Prop:=∃ bs : List Addr,H l = some (.lst (bs.map V.ref))∧(∀ b∈bs,L b)∧Holds H bs n (fun h=>.lst (NV (r h)))
theorem cI.keep {H H' : Hp} {L : Addr→Prop} {l : Addr} {n : Nat} {r : Nat→List Nat} (R : cI H L l n r) (hl : L l) (k : ∀ b o,L b→H b = some o→H' b = some o) : cI H' L l n r :=
 let ⟨bs,a,b,c⟩:=R
 ⟨bs,k _ _ hl a,b,c.mono fun j hj e=>k _ _ (b _ (by rw [List.getD_eq_getElem?_getD,List.getElem?_eq_getElem (by rw [c.1]; exact hj)]; exact List.getElem_mem _)) e⟩
theorem cI.row {H : Hp} {L : Addr→Prop} {l : Addr} {n : Nat} {r : Nat→List Nat} (R : cI H L l n r) {h : Nat} (hh : h < n) : ∃ (bs : List Addr) (b : Addr),H l = some (.lst (bs.map V.ref))∧(bs.map V.ref)[h]? = some (V.ref b)∧H b = some (.lst (NV (r h)))∧L b:=by
 obtain ⟨bs,a,b,c⟩:=R
 have hl : h < bs.length:=by rw [c.1]; exact hh
 refine ⟨bs,bs[h],a,by rw [List.getElem?_map,List.getElem?_eq_getElem hl]; rfl,?_,b _ (List.getElem_mem _)⟩
 have:=c.2 h hh
 rw [List.getD_eq_getElem?_getD,List.getElem?_eq_getElem hl] at this
 exact this
def TieL (H : Hp) (L : Addr→Prop) (tl : Addr) (ts : Ts) : Prop:=L tl∧∃ zs : Zs,H tl = some (.lst (zr zs))∧PO H zs∧(∀ z∈zs,L z.1)∧(zp zs).Perm ts∧Ord (zp zs)
theorem TieL.keep {H H' : Hp} {L : Addr→Prop} {tl : Addr} {ts : Ts} (h : TieL H L tl ts) (k : ∀ b o,L b→H b = some o→H' b = some o) : TieL H' L tl ts :=
 let ⟨a,zs,b,c,d,e⟩:=h; ⟨a,zs,k _ _ a b,fun z hz=>k _ _ (d z hz) (c z hz),d,e⟩
structure cD (C : Addr) (H : Hp) (L : Addr→Prop) (p : Addr) (n : Nat) (ts : Ts) : Prop where
 fine : Fine n ts
 ob : ∃ dx tl ol ds,H p = some (.ins C dx (flds n tl ol ds))∧L ol∧L ds∧cI H L ol n (outN n ts)∧cI H L ds n (fun h=>(List.range n).map (far ts h))∧TieL H L tl ts
theorem cD.keep {C : Addr} {H H' : Hp} {L : Addr→Prop} {p : Addr} {n : Nat} {ts : Ts} (N : cD C H L p n ts) (k : ∀ b o,L b→H b = some o→H' b = some o) (kp : ∀ o,H p = some o→H' p = some o) : cD C H' L p n ts :=
 let ⟨dx,tl,ol,ds,a,l1,l2,b,c,d⟩:=N.ob
 ⟨N.fine,dx,tl,ol,ds,kp _ a,l1,l2,b.keep l1 k,c.keep l2 k,d.keep k⟩
theorem cD.same {C : Addr} {H H' : Hp} {L : Addr→Prop} {p : Addr} {n : Nat} {ts : Ts} (N : cD C H L p n ts) (s : Same H H') : cD C H' L p n ts:=N.keep (fun b o _ e=>s b o e) (fun o e=>s _ o e)
structure NT (K : W.Frag) (mg : Str→Option Value) (C : Addr) : Prop where
 cl : Cls K C
 nH : eN K C "house_count"
 nT : eN K C "tie_list"
 nO : eN K C "out_lists"
 nD : eN K C "distances"
 mgC : mg "Net" = some (.ref C)
structure MCal (P : Program) (w : World) (K : W.Frag) (mg : Str→Option Value) (base : Heap) (CX : CXT) (k : Nat) (C : Addr) (x : Str) (ps : List Str) (sp : Sp) : Prop where
 ex : ∃ f fd,Meth K C x f∧dE K fd ps []∧FnOk P w K mg base CX k f fd ps sp
section
variable {P : Program} {w : World} {K : W.Frag} {mg : Str→Option Value} {base : Heap}
theorem aC8 : aM ["self", "thing"] ["self", "thing"] (aG tX):=⟨rfl,rfl,rfl,by decide +kernel,rfl,by decide +kernel,by decide +kernel⟩
def mC (K : W.Frag) (C CE : Addr) : Sp:=fun vs H Q E=>∃ (L : Addr→Prop) (p : Addr) (n : Nat) (ts : Ts) (x : V) (o : Option Int),vs = [.ref p,x]∧cD C H L p n ts∧Wh K H x o∧(aT o 0 ((n : Int) - 1) = false→E (.ref CE) none H)∧(aT o 0 ((n : Int) - 1) = true→Q .non H)
theorem aBS {f C CE : Addr} {fd : FuncData} (F : Fun K "check_house" "Net.check_house" tX f fd) (T : NT K mg C) (e : Er K mg "NoHouse" CE) (HH : Cal P w K mg base CX0 3 "is_house" ["many", "thing"] (lZ K)) :
  FnOk P w K mg base (CXf P w) 4 f fd ["self", "thing"] (mC K C CE):=by
 refine F.okX aC8 (fun vs H Q E h=>?_) (fun cdv A outer s H vs Q E hr h=>?_)
 ·obtain ⟨L,p,n,ts,x,o,rfl,_⟩:=h
  rfl
 ·obtain ⟨L,p,n,ts,x,o,rfl,N,wh,k1,k2⟩:=h
  obtain ⟨dx,tl,ol,ds,h1,_⟩:=N.ob
  refine ⟨_,aI (bR (cS (cP (aQ HH hr aR (aA (dN (pv 0) rfl) (aA (pv 1) aB))))) (aI (jV (q:=fun H1=>E (.ref CE) none H1) rfl e.ok rfl e.at_ (aA iW aB) (fun _ _ _ _ _ _ _ I m q=>jU I m q))) aZ),?_⟩
  refine ⟨_,rfl,p,C,dx,_,_,rfl,h1,T.cl,T.nH,wV _ _ _ _,_,rfl,x,o,n,rfl,wh,_,rfl,?_⟩
  cases hw : aT o 0 ((n : Int) - 1) with
  | false=>exact iteT ⟨by show 1 ≤ sizeLine; decide,k1 hw⟩
  | true=>exact iteF (k2 hw)
theorem nchk (n : Int) (tl ol ds : Addr) : (flds n tl ol ds).lookup ("check_house" : Str) = none:=eY n tl ol ds (by decide +kernel) (by decide +kernel) (by decide +kernel) (by decide +kernel)
theorem nfar (n : Int) (tl ol ds : Addr) : (flds n tl ol ds).lookup ("far" : Str) = none:=eY n tl ol ds (by decide +kernel) (by decide +kernel) (by decide +kernel) (by decide +kernel)
theorem aAS {xs : List Nat} {i : Nat} (h : i < xs.length) : (NV xs)[i]? = some (.int ((xs[i] : Nat) : Int)):=by rw [List.getElem?_map,List.getElem?_eq_getElem h]; rfl
theorem aN {xs : List Nat} : (NV xs).length = xs.length:=List.length_map _
theorem kC {o : Option Int} {n : Nat} (h : aT o 0 ((n : Int) - 1) = true) : ∃ i : Nat,i < n∧o = some (i : Int):=by
 cases o with
 | none=>cases h
 | some i =>
  unfold aT at h
  simp at h
  exact ⟨i.toNat,by omega,by congr 1; omega⟩
theorem gJ {i n : Nat} (h : i < n) : aT (some (i : Int)) 0 ((n : Int) - 1) = true:=by unfold aT; simp; omega
def rV (K : W.Frag) (C CE : Addr) (ans : Hp→Nat→Ts→Nat→VK→Prop) : Sp:=fun vs H Q E=>∃ (L : Addr→Prop) (p : Addr) (n : Nat) (ts : Ts) (x : V) (o : Option Int),vs = [.ref p,x]∧cD C H L p n ts∧Wh K H x o∧(aT o 0 ((n : Int) - 1) = false→E (.ref CE) none H)∧∀ i : Nat,i < n→o = some (i : Int)→ans H n ts i Q
theorem aEK : aM ["self", "house"] ["self", "house"] (aG sOut):=⟨rfl,rfl,rfl,by decide +kernel,rfl,by decide +kernel,by decide +kernel⟩
def aOut : Hp→Nat→Ts→Nat→VK→Prop:=fun H n ts i Q=>∀ r H',Same H H'→H r = none→H' r = some (.lst (NV (outN n ts i)))→Q (.ref r) H'
theorem jI {H : Hp} {x : V} {i : Int} (h : Wh K H x (some i)) : x = .int i:=by cases h; rfl
theorem aD6 {f C CE : Addr} {fd : FuncData} (F : Fun K "out" "Net.out" sOut f fd) (T : NT K mg C) (B : Bl mg) (M : MCal P w K mg base (CXf P w) 4 C "check_house" ["self", "thing"] (mC K C CE)) :
  FnOk P w K mg base (CXf P w) 5 f fd ["self", "house"] (rV K C CE aOut):=by
 obtain ⟨fM,fdM,mM,bM,GM⟩:=M.ex
 refine F.okX aEK (fun vs H Q E h=>?_) (fun cdv A outer s H vs Q E hr h=>?_)
 ·obtain ⟨L,p,n,ts,x,o,rfl,_⟩:=h
  rfl
 ·obtain ⟨L,p,n,ts,x,o,rfl,N,wh,k1,k2⟩:=h
  obtain ⟨dx,tl,ol,ds,h1,_,_,R,_⟩:=N.ob
  refine ⟨_,aE (cH (fN (pv 0) T.cl mM GM hr bM .nil (oG (E':=E) fun _ _ _ z=>z) (aA (pv 1) aB)))
   (aI (aU (dH iC (by rfl) B.lst PyProof.Rows.boot_list (aA (bL aX (dN (pv 0) rfl) (pv 1) (fun _ _=>rfl)) aB)))),?_⟩
  refine ⟨_,rfl,p,dx,_,rfl,h1,nchk _ _ _ _,_,rfl,L,p,n,ts,x,o,rfl,N,wh,k1,fun hw=>?_⟩
  obtain ⟨i,hi,rfl⟩:=kC hw
  obtain rfl:=jI wh
  obtain ⟨bs,b,r1,r2,r3,_⟩:=R.row hi
  exact ⟨_,rfl,p,C,dx,_,_,rfl,h1,T.cl,T.nO,wW _ _ _ _,_,rfl,ol,_,_,_,rfl,rfl,SqL.of r1,aW r2,b,_,rfl,.inl (SqL.of r3),fun l hl=>k2 i hi rfl l _ (aF hl) hl aD⟩
theorem aEL : aM ["self", "one", "other"] ["self", "one", "other"] (aG sFar):=⟨rfl,rfl,rfl,by decide +kernel,rfl,by decide +kernel,by decide +kernel⟩
def rW (K : W.Frag) (C CE : Addr) : Sp:=fun vs H Q E=>∃ (L : Addr→Prop) (p : Addr) (n : Nat) (ts : Ts) (x : V) (o : Option Int) (y : V) (o' : Option Int),vs = [.ref p,x,y]∧cD C H L p n ts∧Wh K H x o∧Wh K H y o'∧(aT o 0 ((n : Int) - 1) = false∨aT o' 0 ((n : Int) - 1) = false→E (.ref CE) none H)∧∀ i j : Nat,i < n→j < n→o = some (i : Int)→o' = some (j : Int)→Q (.int (far ts i j : Nat)) H
theorem aD7 {f C CE : Addr} {fd : FuncData} (F : Fun K "far" "Net.far" sFar f fd) (T : NT K mg C) (M : MCal P w K mg base (CXf P w) 4 C "check_house" ["self", "thing"] (mC K C CE)) :
  FnOk P w K mg base (CXf P w) 5 f fd ["self", "one", "other"] (rW K C CE):=by
 obtain ⟨fM,fdM,mM,bM,GM⟩:=M.ex
 refine F.okX aEL (fun vs H Q E h=>?_) (fun cdv A outer s H vs Q E hr h=>?_)
 ·obtain ⟨L,p,n,ts,x,o,y,o',rfl,_⟩:=h
  rfl
 ·obtain ⟨L,p,n,ts,x,o,y,o',rfl,N,wh,wh',k1,k2⟩:=h
  obtain ⟨dx,tl,ol,ds,h1,_,_,_,R,_⟩:=N.ob
  refine ⟨_,aE (cH (fN (pv 0) T.cl mM GM hr bM .nil (oG (E':=E) fun _ _ _ z=>z) (aA (pv 1) aB)))
   (aE (cH (fN (pv 0) T.cl mM GM hr bM .nil (oG (E':=E) fun _ _ _ z=>z) (aA (pv 2) aB)))
   (aI (aU (bL aX (bL aX (dN (pv 0) rfl) (pv 1) (fun _ _=>rfl)) (pv 2) (fun _ _=>rfl))))),?_⟩
  refine ⟨_,rfl,p,dx,_,rfl,h1,nchk _ _ _ _,_,rfl,L,p,n,ts,x,o,rfl,N,wh,fun z=>k1 (.inl z),fun hw=>?_⟩
  refine ⟨_,rfl,p,dx,_,rfl,h1,nchk _ _ _ _,_,rfl,L,p,n,ts,y,o',rfl,N,wh',fun z=>k1 (.inr z),fun hw'=>?_⟩
  obtain ⟨i,hi,rfl⟩:=kC hw
  obtain ⟨j,hj,rfl⟩:=kC hw'
  obtain rfl:=jI wh
  obtain rfl:=jI wh'
  obtain ⟨bs,b,r1,r2,r3,_⟩:=R.row hi
  have hg : (NV ((List.range n).map (far ts i)))[j]? = some (.int (far ts i j : Nat)):=by
   rw [List.getElem?_map,List.getElem?_map,List.getElem?_range hj]; rfl
  exact ⟨_,rfl,p,C,dx,_,_,rfl,h1,T.cl,T.nD,pX _ _ _ _,_,rfl,ds,_,_,_,rfl,rfl,SqL.of r1,aW r2,_,rfl,b,_,_,_,rfl,rfl,SqL.of r3,aW hg,k2 i j hi hj rfl rfl⟩
end
end K12
namespace K12
open PySem L2 NetM
abbrev tY : Stmt:=top 25
abbrev sTie : Stmt:=top 26
abbrev sBal : Stmt:=top 27
section
variable {P : Program} {w : World} {K : W.Frag} {mg : Str→Option Value} {base : Heap}
abbrev sUnl : Stmt:=top 18
theorem aEM : aM ["many", "one", "other"] ["many", "one", "other"] (aG sUnl):=⟨rfl,rfl,rfl,by decide +kernel,rfl,by decide +kernel,by decide +kernel⟩
def yT : Sp:=fun vs H Q _=>∃ (n a b : Int),vs = [.int n,.int a,.int b]∧0 ≤ a∧a < n∧0 ≤ b∧b < n∧a ≠ b∧Q (.bl true) H
theorem aD8 {f : Addr} {fd : FuncData} (F : Fun K "are_unlike_houses" "are_unlike_houses" sUnl f fd) (HH : Cal P w K mg base CX0 3 "is_house" ["many", "thing"] (lZ K)) :
  FnOk P w K mg base CX0 4 f fd ["many", "one", "other"] yT:=by
 refine F.ok aEM (fun vs H Q E h=>?_) (fun cdv A outer s H vs Q E hr h=>?_)
 ·obtain ⟨n,a,b,rfl,_⟩:=h
  rfl
 ·obtain ⟨n,a,b,rfl,a1,a2,b1,b2,hne,k⟩:=h
  refine ⟨_,aI (aU (eK (aQ HH hr aR (aA (pv 0) (aA (pv 1) aB))) (eK (aQ HH hr aR (aA (pv 0) (aA (pv 2) aB))) (gG (hG lP (pv 1) (pv 2) (bB _)))))),?_⟩
  refine ⟨_,rfl,_,rfl,_,_,n,rfl,.int a,_,rfl,?_⟩
  rw [if_pos (show aT (some a) 0 (n - 1) = true by unfold aT; simp; omega)]
  refine ⟨_,rfl,_,rfl,_,_,n,rfl,.int b,_,rfl,?_⟩
  rw [if_pos (show aT (some b) 0 (n - 1) = true by unfold aT; simp; omega)]
  refine ⟨_,rfl,_,rfl,rfl,?_⟩
  have e : (!decide (V.int a = V.int b)) = true:=by simp [hne]
  rw [e]
  exact k
theorem aEN : aM ["many", "thing"] ["many", "thing"] (aG sTie):=⟨rfl,rfl,rfl,by decide +kernel,rfl,by decide +kernel,by decide +kernel⟩
def yU : Sp:=fun vs H Q _=>∃ (n : Int) (p : Addr) (a b : Int),vs = [.int n,.ref p]∧H p = some (.tup [.int a,.int b])∧0 ≤ a∧a < n∧0 ≤ b∧b < n∧a ≠ b∧Q (.bl true) H
theorem aD9 {f : Addr} {fd : FuncData} (F : Fun K "is_tie" "is_tie" sTie f fd) (R : Cal P w K mg base CX0 1 "is_row" ["thing", "length"] (rS K)) (U : Cal P w K mg base CX0 4 "are_unlike_houses" ["many", "one", "other"] yT) :
  FnOk P w K mg base CX0 5 f fd ["many", "thing"] yU:=by
 refine F.ok aEN (fun vs H Q E h=>?_) (fun cdv A outer s H vs Q E hr h=>?_)
 ·obtain ⟨n,p,a,b,rfl,_⟩:=h
  rfl
 ·obtain ⟨n,p,a,b,rfl,hp,a1,a2,b1,b2,hne,k⟩:=h
  refine ⟨_,aI (aU (eK (aQ R (hr.mono (by decide)) aR (aA (pv 1) (aA aK aB)))
   (gG (aQ U hr aR (aA (pv 0) (aA (bL sO (pv 1) aK (fun _ _=>rfl)) (aA (bL sO (pv 1) aK (fun _ _=>rfl)) aB))))))),?_⟩
  refine ⟨_,rfl,_,_,_,rfl,.tup hp,true,rfl,?_⟩
  exact ⟨_,rfl,_,rfl,p,_,_,_,rfl,rfl,SqT.of hp,aW (j:=0) rfl,_,rfl,p,_,_,_,rfl,rfl,SqT.of hp,aW (j:=1) rfl,n,a,b,rfl,a1,a2,b1,b2,hne,k⟩
theorem wX : aM ["many", "ties", "tie"] ["many", "ties"] (aG tY):=⟨rfl,rfl,rfl,by decide +kernel,rfl,by decide +kernel,by decide +kernel⟩
theorem tZ {K : W.Frag} : W.kitOne K (.type "list") (.type "list") = some true:=by kernel_rfl
structure cX (H : Hp) (l : Addr) (n : Nat) (zs : Zs) : Prop where
 fine : Fine n (zp zs)
 at_ : H l = some (.lst (zr zs))
 po : PO H zs
theorem cX.same {H H' : Hp} {l : Addr} {n : Nat} {zs : Zs} (h : cX H l n zs) (s : Same H H') : cX H' l n zs:=⟨h.fine,s _ _ h.at_,h.po.same s⟩
def hU : Sp:=fun vs H Q _=>∃ (n : Nat) (l : Addr) (zs : Zs),vs = [.int n,.ref l]∧cX H l n zs∧∀ H',Same H H'→Q .non H'
theorem aBT {f : Addr} {fd : FuncData} (F : Fun K "check_ties" "check_ties" tY f fd) (B : Bl mg) (gF : ∃ t,mg "FEWEST_HOUSES" = some (.int 2 t)) (gM : ∃ t,mg "MOST_HOUSES" = some (.int 32 t))
  (W : Cal P w K mg base CX0 2 "is_whole_within" ["thing", "least", "most"] (iH K)) (T : Cal P w K mg base CX0 5 "is_tie" ["many", "thing"] yU) :
  FnOk P w K mg base CX0 6 f fd ["many", "ties"] hU:=by
 obtain ⟨tF,gF⟩:=gF
 obtain ⟨tM,gM⟩:=gM
 refine F.ok wX (fun vs H Q E h=>?_) (fun cdv A outer s H vs Q E hr h=>?_)
 ·obtain ⟨n,l,zs,rfl,_⟩:=h
  rfl
 ·refine ⟨_,aE (bR (cS (cP (aQ W (hr.mono (by decide)) aR (aA (pv 0) (aA (cE (v:=.int 2) rfl gF ⟨_,rfl⟩) (aA (cE (v:=.int 32) rfl gM ⟨_,rfl⟩) aB)))))) bZ aZ)
   (aE (bR (cS (cP (aO dD (by rfl) B.isi PyProof.Rows.boot_isinstance (aA (pv 1) (aA (dR (v:=.ty "list") rfl B.lst PyProof.Rows.boot_list rfl) aB))))) bZ aZ)
   (aE (cJ PassesOwn.never rfl (bX (pv 1)) (aL (i:=2) wX.nd rfl (Or.inl rfl)) (aI (bR (cS (cP (aQ T hr aR (aA (pv 0) (aA (pv 2) aB))))) bZ aZ)))
   (aI (bR (bA lP (aO vE (by rfl) B.len PySem.boot_len (aA (dH (aAp rfl (by have:=hr.un; show (A.deeper _).units + 8 < _; omega)) (by rfl) B.set PyProof.Rows.boot_set (aA (pv 1) aB)) aB)) (aO bV (by rfl) B.len PySem.boot_len (aA (pv 1) aB)) (bB _)) bZ aZ)))),?_⟩
  obtain ⟨n,l,zs,rfl,tt,k⟩:=h
  obtain ⟨fi,hl,po⟩:=id tt
  have n1:=fi.n1
  have n2:=fi.n2
  refine ⟨_,rfl,_,_,2,32,rfl,.int n,_,rfl,?_⟩
  rw [show aT (some (n : Int)) 2 32 = true by unfold aT; simp; omega]
  refine iteF ?_
  refine ⟨_,rfl,_,_,_,.type "list",true,rfl,⟨rfl,tZ⟩,.of (.lst hl),_,rfl,iteF ?_⟩
  refine ⟨_,rfl,l,rfl,⟨_,SqL.of hl⟩,eT (K:=K) (a:=l) (xs:=zr zs) (fun i σ H2=>H2 = H∧∃ v,σ = [some (.int n),some (.ref l),v]) ⟨rfl,none,rfl⟩ (fun i σ H2 _ ⟨e,_⟩=>by rw [e]; exact SqL.of hl) ?_ ?_⟩
  ·rintro i x σ H2 hx ⟨rfl,v,rfl⟩
   obtain ⟨z,hz,rfl⟩:=jH hx
   have hzm : z∈zs:=List.mem_of_getElem? hz
   have hzp : z.2∈zp zs:=List.mem_map.mpr ⟨z,hzm,rfl⟩
   have r:=fi.rg _ hzp
   exact ⟨_,rfl,_,rfl,n,_,_,_,rfl,po z hzm,r.1.1,r.1.2,r.2.1,r.2.2,fi.ne _ hzp,_,rfl,iteF ⟨rfl,_,rfl⟩⟩
  ·rintro σ H2 ⟨rfl,v,rfl⟩
   have hlen : (zp zs).length ≤ 256:=fi.len
   refine ⟨_,rfl,l,zs.map (·.1),zp zs,rfl,SqL.of (by rw [← mB]; exact hl),by rw [List.length_map,bK],fun i hi=>?_,fi.nd,fun y hy=>?_,by omega,fun D hD=>?_⟩
   ·rw [bK] at hi
    rw [tW hi,wU hi]
    exact SqT.of (po _ (List.getElem_mem hi))
   ·have r:=fi.rg _ hy
    omega
   ·have nl : l ≠ D:=aJ hl hD
    refine ⟨D,_,rfl,aD,by omega,_,rfl,l,zr zs,rfl,.inl (SqL.of (by rw [aH nl]; exact hl)),rfl,_,rfl,?_⟩
    have ez : (!decide (V.int (((zp zs).length : Nat) : Int) = V.int (((zr zs).length : Nat) : Int))) = false:=by rw [bK,dB]; simp
    rw [ez]
    exact iteF (k _ (aF hD))
end
end K12
namespace K12
open PySem L2 NetM
abbrev oU : Stmt:=top 28
section
variable {P : Program} {w : World} {K : W.Frag} {mg : Str→Option Value} {base : Heap}
theorem lG {zs : Zs} {l D : Addr} {H : Hp} {g : TG} {tt : TT} {te : TE} {fin : Hp→Prop} {σB : St} (S : St→Prop) (p q : Int × Int→Int) (h : Int) (hD : H D = none) (hl : H l = some (.lst (zr zs))) (po : PO H zs) (hn : zs.length ≤ 1000) (s0 : S σB)
  (hg : ∀ z σ H2 (Kt : V→St→Hp→Prop) (Kf : St→Hp→Prop),z∈zs→S σ→H2 z.1 = some (prT z.2)→(∀ σ2,S σ2→p z.2 = h→Kt (.int (q z.2)) σ2 H2)→(∀ σ2,S σ2→p z.2 ≠ h→Kf σ2 H2) →
   g (.ref z.1) σ H2 fun σ2 H2=>tt σ2 H2 fun b H3=>if b = true then te σ2 H3 fun v H4=>Kt v σ2 H4 else Kf σ2 H3)
  (hd : fin (upd H D (.lst (IV (((zp zs).filter fun y=>decide (p y = h)).map q))))) : gC (Itl K l) g tt te D fin σB (upd H D (.lst [])):=by
 have nl : l ≠ D:=aJ hl hD
 have tk : ∀ {i : Nat} {z : Addr × (Int × Int)},zs[i]? = some z→(zp zs).take (i + 1) = (zp zs).take i ++ [z.2]:=fun {i z} hz=>by
  rw [List.take_add_one,show (zp zs)[i]? = some z.2 by unfold zp; rw [List.getElem?_map,hz]; rfl]; rfl
 refine cQ (xs:=zr zs) (fun i ys σ H2=>S σ∧ys = IV ((((zp zs).take i).filter fun y=>decide (p y = h)).map q)∧H2 = upd H D (.lst ys)) ⟨s0,by simp,rfl⟩ (fun i ys σ H2 _ ⟨_,_,e⟩=>by rw [e]; exact SqL.of (by rw [aH nl]; exact hl)) ?_ ?_
 ·rintro i x ys σ H2 Kt Kf hx ⟨hS,ey,rfl⟩ kt kf
  obtain ⟨z,hz,rfl⟩:=jH hx
  have hzm : z∈zs:=List.mem_of_getElem? hz
  have hp:=po z hzm
  have na : z.1 ≠ D:=aJ hp hD
  have hi : i < zs.length:=(List.getElem?_eq_some_iff.mp hz).1
  refine hg z σ _ Kt Kf hzm hS (by rw [aH na]; exact hp) (fun σ2 s2 e=>?_) (fun σ2 s2 e=>?_)
  ·refine kt _ _ _ aD ?_ ⟨s2,?_,?_⟩
   ·rw [ey,List.length_map,List.length_map]
    exact Nat.lt_of_le_of_lt (List.length_filter_le _ _) (Nat.lt_of_le_of_lt (List.length_take_le _ _) (Nat.lt_of_lt_of_le (show i < 1000 by omega) (by decide)))
   ·rw [ey,tk hz,List.filter_append,List.map_append]
    have : decide (p z.2 = h) = true:=by simp [e]
    simp [List.filter_cons,this]
   ·rw [fL]
  ·refine kf _ _ ⟨s2,?_,rfl⟩
   have : decide (p z.2 = h) = false:=by simp [e]
   rw [ey,tk hz,List.filter_append]
   simp [List.filter_cons,this]
 ·rintro ys σ H2 ⟨_,ey,rfl⟩
  rw [dB,← bK,List.take_length] at ey
  rw [ey]
  exact hd
theorem nb3 : (["one", "other", "house"] : List Str).Nodup:=by decide +kernel
theorem rX : aM ["many", "ties", "house", "leading_out", "leading_in"] ["many", "ties"] (aG sBal):=⟨rfl,rfl,rfl,by decide +kernel,rfl,by decide +kernel,by decide +kernel⟩
theorem aEa {f : Addr} {fd : FuncData} (F : Fun K "check_balance" "check_balance" sBal f fd) (B : Bl mg) (gM : ∃ t,mg "MOST_TIES_OUT" = some (.int 8 t)) :
  FnOk P w K mg base CX0 1 f fd ["many", "ties"] hU:=by
 obtain ⟨tM,gM⟩:=gM
 refine F.ok rX (fun vs H Q E h=>?_) (fun cdv A outer s H vs Q E hr h=>?_)
 ·obtain ⟨n,l,zs,rfl,_⟩:=h
  rfl
 ·obtain ⟨n,l,zs,rfl,T,k⟩:=h
  have fi:=T.fine
  have n1:=fi.n1
  have n2:=fi.n2
  have hlen : zs.length ≤ 256:=by have:=fi.len; rw [bK] at this; exact this
  refine' ⟨_,aI (cJ PassesOwn.never rfl (cA rfl B.range (aA (pv 0) aB)) (aL (i:=2) rX.nd rfl (Or.inr rfl))
   (aE (aS (i:=3) rX.nd rfl (Or.inl rfl) (aO bV (by rfl) B.len PySem.boot_len (aA ?c1 aB)))
   (aE (aS (i:=4) rX.nd rfl (Or.inl rfl) (aO bV (by rfl) B.len PySem.boot_len (aA ?c2 aB)))
   (aE (bR (bA lP (pv 3) (pv 4) (bB _)) bZ aZ)
   (aI (bR (bA xK (pv 3) (cE (v:=.int 8) rfl gM ⟨_,rfl⟩) (bB _)) bZ aZ)))))),?_⟩
  case c1 =>
   refine' cC (g:=gTup K 2 (eE (bE 0) (eE (bE 1) gNil))) (NB:=["one", "other", "house"]) (src:=[none,none,some 2]) (bU (by kernel_rfl)) rfl (bX (pv 1)) ?g ?t ?e
   case g=>exact fun cl C s₃ H₃ fp=>eL (n:=2) rfl (bQ (aL (i:=0) nb3 rfl (Or.inl rfl) (Or.inr rfl)) (bQ (aL (i:=1) nb3 rfl (Or.inl rfl) (Or.inr rfl)) dS))
   case t=>exact fun cl C s₃ H₃ fp=>hJ (bA fD (pv 0) (pv 2) (bB _))
   case e=>exact fun cl C s₃ H₃ fp=>pv 0
  case c2 =>
   refine' cC (g:=gTup K 2 (eE (bE 0) (eE (bE 1) gNil))) (NB:=["one", "other", "house"]) (src:=[none,none,some 2]) (bU (by kernel_rfl)) rfl (bX (pv 1)) ?g ?t ?e
   case g=>exact fun cl C s₃ H₃ fp=>eL (n:=2) rfl (bQ (aL (i:=0) nb3 rfl (Or.inl rfl) (Or.inr rfl)) (bQ (aL (i:=1) nb3 rfl (Or.inl rfl) (Or.inr rfl)) dS))
   case t=>exact fun cl C s₃ H₃ fp=>hJ (bA fD (pv 1) (pv 2) (bB _))
   case e=>exact fun cl C s₃ H₃ fp=>pv 1
  refine ⟨_,rfl,n,rfl,by omega,by omega,eA (n:=n) (lo:=0) (fun i σ H2=>Same H H2∧∃ a b c,σ = [some (.int n),some (.ref l),a,b,c]) ⟨Same.refl _,none,none,none,rfl⟩ ?_ ?_⟩
  ·rintro i σ H2 hi ⟨sm,a,b,c,rfl⟩
   have T2:=T.same sm
   refine ⟨_,rfl,l,rfl,⟨_,SqL.of T2.at_⟩,fun D hD=>lG (fun σ=>∃ a b,σ = [a,b,some (.int (0 + (i : Int)))]) (·.1) (·.1) (0 + (i : Int)) hD T2.at_ T2.po (by omega) ⟨_,_,rfl⟩ ?_ ?_⟩
   ·rintro z σ H3 Kt Kf hj ⟨x,y,rfl⟩ ha kt kf
    refine ⟨z.1,_,rfl,SqT.of ha,rfl,_,_,rfl,_,_,rfl,rfl,?_⟩
    refine ⟨_,rfl,_,rfl,rfl,_,rfl,?_⟩
    refine ite2 (fun e=>?_) (fun e=>?_)
    ·exact ⟨_,rfl,kt _ ⟨_,_,rfl⟩ (by simpa using e)⟩
    ·exact kf _ ⟨_,_,rfl⟩ (by simpa using e)
   ·refine ⟨D,_,rfl,.inl (SqL.of aD),?_⟩
    have sm2:=bP (o:=.lst (IV (((zp zs).filter fun y=>decide (y.1 = 0 + (i : Int))).map (·.1)))) (sm.trans (Same.refl _)) (H:=H) (by cases z : H D with | none=>rfl | some o=>rw [sm _ _ z] at hD; cases hD)
    have T3:=T.same sm2
    refine ⟨_,rfl,l,rfl,⟨_,SqL.of T3.at_⟩,fun D' hD'=>lG (fun σ=>∃ a b,σ = [a,b,some (.int (0 + (i : Int)))]) (·.2) (·.2) (0 + (i : Int)) hD' T3.at_ T3.po (by omega) ⟨_,_,rfl⟩ ?_ ?_⟩
    ·rintro z σ H3 Kt Kf hj ⟨x,y,rfl⟩ ha kt kf
     refine ⟨z.1,_,rfl,SqT.of ha,rfl,_,_,rfl,_,_,rfl,rfl,?_⟩
     refine ⟨_,rfl,_,rfl,rfl,_,rfl,?_⟩
     refine ite2 (fun e=>?_) (fun e=>?_)
     ·exact ⟨_,rfl,kt _ ⟨_,_,rfl⟩ (by simpa using e)⟩
     ·exact kf _ ⟨_,_,rfl⟩ (by simpa using e)
    ·refine ⟨D',_,rfl,.inl (SqL.of aD),?_⟩
     rw [Int.zero_add] at *
     have q1 : (IV (((zp zs).filter fun y=>decide (y.1 = (i : Int))).map (·.1))).length = (IV (((zp zs).filter fun y=>decide (y.2 = (i : Int))).map (·.2))).length:=by
      rw [List.length_map,List.length_map,List.length_map,List.length_map]; exact fi.bal i
     have q2 : (IV (((zp zs).filter fun y=>decide (y.1 = (i : Int))).map (·.1))).length ≤ 8:=by
      rw [List.length_map,List.length_map]; exact fi.most i
     refine ⟨_,rfl,_,rfl,rfl,_,rfl,?_⟩
     rw [← q1]
     rw [show (!decide (V.int (((IV (((zp zs).filter fun y=>decide (y.1 = (i : Int))).map (·.1))).length : Nat) : Int) = V.int (((IV (((zp zs).filter fun y=>decide (y.1 = (i : Int))).map (·.1))).length : Nat) : Int))) = false by simp]
     refine iteF ?_
     refine ⟨_,rfl,_,_,rfl,rfl,_,rfl,?_⟩
     rw [show decide ((((IV (((zp zs).filter fun y=>decide (y.1 = (i : Int))).map (·.1))).length : Nat) : Int) > 8) = false by rw [decide_eq_false_iff_not]; omega]
     exact iteF ⟨sm2.trans (aF hD'),_,_,_,rfl⟩
  ·rintro σ H2 ⟨sm,a,b,c,rfl⟩
   exact k H2 sm
end
end K12
namespace K12
open PySem L2 NetM
def lamE : Expr:=match (bY oU).getD 1 (.Pass ⟨0,0,0,0⟩) with
 | .Return (some (.Call _ _ (k :: _) _)) _=>k.value
 | _=>.Name "x" ⟨0,0,0,0⟩
def aC9 : Arguments:=match lamE with
 | .Lambda a _ _ _=>a
 | _=>{ posonlyargs:=[],args:=[],vararg:=none,kwonlyargs:=[],kw_defaults:=[],kwarg:=none,defaults:=[] }
def aDa : Expr:=match lamE with
 | .Lambda _ b _ _=>b
 | e=>e
def aEO : Scope:=match lamE with
 | .Lambda _ _ s _=>s
 | _=>{ kind:=.function,names:=[],isGenerator:=false,isCoroutine:=false }
def aEb : Pos:=match lamE with
 | .Lambda _ _ _ p=>p
 | _=>⟨0,0,0,0⟩
def aCn : Str:=("houses_out" : Str) ++ ".<locals>." ++ "<lambda>"
abbrev Tab (Pt : Addr) (H : Hp) : Prop:=yG aEb aCn Pt H
def iQ (Pt : Addr) (H H' : Hp) : Prop:=∀ b o,H b = some o→b ≠ Pt→H' b = some o
theorem iQ.of {Pt : Addr} {H H' : Hp} (a : Same H H') : iQ Pt H H':=fun c o h _=>a c o h
theorem Tab.not {Pt : Addr} {H : Hp} (t : Tab Pt H) {b : Addr} {o : HO} (h : H b = some o) (n : ∀ ps,o ≠ .tbl ps) : b ≠ Pt:=by
 rintro rfl
 rcases t with z | ⟨c,z,_⟩ <;> · rw [h] at z; exact n _ (Option.some.inj z)
theorem Tab.same {Pt : Addr} {H H' : Hp} (t : Tab Pt H) (e : Same H H') : Tab Pt H':=by
 rcases t with z | ⟨c,z,y⟩
 ·exact .inl (e _ _ z)
 ·exact .inr ⟨c,e _ _ z,e _ _ y⟩
theorem pY {n a b h : Int} (hn : 0 < n) (a0 : 0 ≤ a) (a1 : a < n) (b0 : 0 ≤ b) (b1 : b < n) (e : (a - h) % n = (b - h) % n) : a = b:=by
 have h1:=Int.emod_emod_of_dvd (a - h) (Int.dvd_refl n)
 have q : (a - b) % n = 0:=by
  have : a - b = (a - h) - (b - h):=by omega
  rw [this,Int.sub_emod,e,Int.sub_self,Int.zero_emod]
 obtain ⟨c,hc⟩:=Int.dvd_of_emod_eq_zero q
 have c0 : c = 0:=by
  rcases Int.lt_trichotomy c 0 with z | z | z
  ·have : n * c ≤ n * (-1):=Int.mul_le_mul_of_nonneg_left (by omega) (by omega)
   omega
  ·exact z
  ·have : n * 1 ≤ n * c:=Int.mul_le_mul_of_nonneg_left (by omega) (by omega)
   omega
 rw [c0] at hc
 omega
theorem rM {ts : Ts} {h : Int} (nd : ts.Nodup) : ((ts.filter fun y=>decide (y.1 = h)).map (·.2)).Nodup:=by
 refine L2.lA (nd.filter _) fun x hx y hy e=>?_
 have a:=(List.mem_filter.mp hx).2
 have b:=(List.mem_filter.mp hy).2
 simp at a b
 exact Prod.ext (a.trans b.symm) e
theorem aAT {n : Nat} {ts : Ts} {h : Nat} (F : Fine n ts) (hh : h < n) {out : List Int} (ko : KOut (h : Int) (n : Int) ((ts.filter fun y=>decide (y.1 = (h : Int))).map (·.2)) out) : out.map V.int = NV (outN n ts h):=by
 obtain ⟨ps,hp,rfl,hs⟩:=ko
 have hout : (ps.map (·.2)).Perm ((ts.filter fun y=>decide (y.1 = (h : Int))).map (·.2)):=by
  have:=hp.map (·.2)
  rw [List.map_map] at this
  refine this.trans (List.Perm.of_eq ?_)
  conv=>rhs; rw [← List.map_id ((ts.filter fun y=>decide (y.1 = (h : Int))).map (·.2))]
  rfl
 have mem : ∀ z,z∈ps.map (·.2)↔((h : Int),z)∈ts:=fun z=>by
  rw [hout.mem_iff,List.mem_map]
  constructor
  ·rintro ⟨y,hy,rfl⟩
   obtain ⟨y1,y2⟩:=List.mem_filter.mp hy
   have : y.1 = (h : Int):=by simpa using y2
   rw [← this]; exact y1
  ·intro hz
   exact ⟨_,List.mem_filter.mpr ⟨hz,by simp⟩,rfl⟩
 have nd : (ps.map (·.2)).Nodup:=hout.nodup_iff.mpr (rM F.nd)
 have key : ∀ q∈ps,q.1 = (q.2 - (h : Int)) % (n : Int):=fun q hq=>by
  obtain ⟨z,_,e⟩:=List.mem_map.mp (hp.mem_iff.mp hq)
  rw [← e]
 have hn : (0 : Int) < n:=by have:=F.n1; omega
 have sorted : (ps.map (·.2)).Pairwise fun x y=>(x - (h : Int)) % (n : Int) < (y - (h : Int)) % (n : Int):=by
  refine List.pairwise_map.mpr ?_
  have nd2:=List.pairwise_map.mp nd
  refine (hs.and nd2).imp_of_mem fun {x y} hx hy hxy=>?_
  have l1:=hxy.1
  rw [key x hx,key y hy] at l1
  have ax:=F.rg _ ((mem x.2).mp (List.mem_map.mpr ⟨x,hx,rfl⟩))
  have ay:=F.rg _ ((mem y.2).mp (List.mem_map.mpr ⟨y,hy,rfl⟩))
  have ne : (x.2 - (h : Int)) % (n : Int) ≠ (y.2 - (h : Int)) % (n : Int):=fun z=>hxy.2 (pY hn ax.2.1 ax.2.2 ay.2.1 ay.2.2 z)
  omega
 have e : ps.map (·.2) = (outN n ts h).map fun (o : Nat)=>(o : Int):=by
  refine gE (k:=fun z=>(z - (h : Int)) % (n : Int)) sorted ?_ fun z=>?_
  ·refine List.pairwise_map.mpr ?_
   exact iV hh
  ·rw [mem,List.mem_map]
   constructor
   ·intro hz
    have r:=F.rg _ hz
    refine ⟨z.toNat,(dM F hh).mpr ?_,by omega⟩
    show (((h : Nat) : Int),((z.toNat : Nat) : Int))∈ts
    rw [show ((z.toNat : Nat) : Int) = z by omega]; exact hz
   ·rintro ⟨o,ho,rfl⟩
    exact (dM F hh).mp ho
 rw [e,List.map_map]
 rfl
section
variable {P : Program} {w : World} {K : W.Frag} {mg : Str→Option Value} {base : Heap}
theorem aAU : aM ["many", "ties", "house", "others"] ["many", "ties", "house"] (aG oU):=⟨rfl,rfl,rfl,by decide +kernel,rfl,by decide +kernel,by decide +kernel⟩
def oV (Pt : Addr) : Sp:=fun vs H Q _=>∃ (n : Nat) (l : Addr) (h : Nat) (zs : Zs),vs = [.int n,.ref l,.int h]∧h < n∧cX H l n zs∧Tab Pt H ∧
 ∀ (r : Addr) (H' : Hp),Tab Pt H'→iQ Pt H H'→H r = none→H' r = some (.lst (NV (outN n (zp zs) h)))→Q (.ref r) H'
theorem aDb {f c Pt : Addr} {fd : FuncData} (F : FunC K "houses_out" "houses_out" oU f fd c) (B : Bl mg) (kb : K.In base) (hb : BmOk mg base) (hc : W.codeHdIn K c Pt = true) :
  FnOk P w K mg base CX0 1 f fd ["many", "ties", "house"] (oV Pt):=by
 refine F.ok aAU (fun vs H Q E h=>?_) (fun A outer s H vs Q E hr h=>?_)
 ·obtain ⟨n,l,h,zs,rfl,_⟩:=h
  rfl
 ·obtain ⟨n,l,h,zs,rfl,hh,T,tb,k⟩:=h
  have fi:=T.fine
  have n1:=fi.n1
  have hlen : zs.length ≤ 256:=by have:=fi.len; rw [bK] at this; exact this
  have LS : LamS (cxOf CX0 P w K mg base ["many", "ties", "house", "others"] "houses_out" (aG oU) f (.ref c) A outer s H E).nox aCn aC9 aDa aEO "other" "house" "many" 2 0 :=
   ⟨⟨_,_,_,_,_,rfl⟩,fun _ _ _ _ _=>rfl,rfl,rfl,rfl,rfl,rfl,rfl,rfl,by decide +kernel,by decide +kernel,by decide +kernel,rfl,rfl,rfl,by decide,⟨by decide,by decide⟩,⟨by decide,by decide⟩⟩
  refine' ⟨_,aE (fE (i:=3) (g:=gTup K 2 (eE (bE 0) (eE (bE 1) gNil))) (NB:=["one", "other", "house"]) (src:=[none,none,some 2]) (bU (by kernel_rfl)) rfl (bX (pv 1)) ?g ?t ?e aAU.nd rfl rfl rfl)
   (aI (aU (aAt (yH LS hr) rfl B.sorted PyProof.Rows.boot_sorted (aA (pv 3) aB) (aCE (aDZ (NB:=["other", "house", "many"]) (src:=[none,some 2,some 0]) (aCP kb hb hc) (bU (by kernel_rfl))) aDN)))),?_⟩
  case g=>exact fun cl C s₃ H₃ fp=>eL (n:=2) rfl (bQ (aL (i:=0) nb3 rfl (Or.inl rfl) (Or.inr rfl)) (bQ (aL (i:=1) nb3 rfl (Or.inl rfl) (Or.inr rfl)) dS))
  case t=>exact fun cl C s₃ H₃ fp=>hJ (bA fD (pv 0) (pv 2) (bB _))
  case e=>exact fun cl C s₃ H₃ fp=>pv 1
  refine ⟨_,rfl,l,rfl,⟨_,SqL.of T.at_⟩,fun D hD=>lG (fun σ=>∃ a b,σ = [a,b,some (.int (h : Int))]) (·.1) (·.2) (h : Int) hD T.at_ T.po (by omega) ⟨_,_,rfl⟩ ?_ ?_⟩
  ·rintro z σ H3 Kt Kf hj ⟨x,y,rfl⟩ ha kt kf
   refine ⟨z.1,_,rfl,SqT.of ha,rfl,_,_,rfl,_,_,rfl,rfl,?_⟩
   refine ⟨_,rfl,_,rfl,rfl,_,rfl,?_⟩
   refine ite2 (fun e=>?_) (fun e=>?_)
   ·exact ⟨_,rfl,kt _ ⟨_,_,rfl⟩ (by simpa using e)⟩
   ·exact kf _ ⟨_,_,rfl⟩ (by simpa using e)
  ·generalize hos : ((zp zs).filter fun y=>decide (y.1 = (h : Int))).map (·.2) = os
   have hol : os.length ≤ 8:=by rw [← hos,List.length_map]; exact fi.most h
   have sm : Same H (upd H D (.lst (IV os))):=aF hD
   refine ⟨_,rfl,tb.same sm,fun f' c' H2 t2' old hc' hf'=>?_⟩
   have t2 : Tab Pt H2:=t2'
   have hD2 : H2 D = some (.lst (IV os)):=old _ _ aD ((tb.same sm).not aD (by intro ps z; cases z))
   refine ⟨D,f',c',os,h,n,rfl,rfl,SqL.of hD2,(by omega),hf',hc',rfl,rfl,by omega,fun r out hr' ko=>?_⟩
   rw [← hos] at ko
   rw [aAT fi hh ko]
   have sm2 : Same H2 (upd H2 r (.lst (NV (outN n (zp zs) h)))):=aF hr'
   refine k r _ (t2.same sm2) (fun b o e hb=>sm2 _ _ (old b o (sm _ _ e) hb)) ?_ aD
   cases z : H r with
   | none=>rfl
   | some o =>
    by_cases hP : r = Pt
    ·rcases t2 with q | ⟨_,q,_⟩ <;> · rw [← hP,hr'] at q; cases q
    ·rw [old r o (sm _ _ z) hP] at hr'; cases hr'
end
end K12
namespace K12
open PySem L2 NetM
abbrev yV : Stmt:=top 29
abbrev uA : Stmt:=top 30
def rowV (n : Nat) (R : List Nat) (f : Nat→Nat) : List V:=(List.range n).map fun x=>if x∈R then V.int ((f x : Nat) : Int) else .non
theorem iI {n : Nat} {R : List Nat} {f : Nat→Nat} : (rowV n R f).length = n:=by unfold rowV; rw [List.length_map,List.length_range]
theorem iJ {n : Nat} {R : List Nat} {f : Nat→Nat} {x : Nat} (h : x < n) : (rowV n R f)[x]? = some (if x∈R then V.int ((f x : Nat) : Int) else .non):=by
 unfold rowV
 rw [List.getElem?_map,List.getElem?_range h]
 rfl
theorem yW {n s : Nat} (hs : s < n) : (List.replicate n V.non).set s (V.int 0) = rowV n [s] (fun _=>0):=by
 apply List.ext_getElem?
 intro x
 by_cases hx : x < n
 ·rw [iJ hx]
  by_cases e : x = s
  ·subst e
   rw [List.getElem?_set_self (by rw [List.length_replicate]; exact hx),if_pos (by simp)]
   rfl
  ·rw [List.getElem?_set_ne (fun z=>e z.symm),List.getElem?_replicate,if_pos hx,if_neg (by simp [e])]
 ·rw [List.getElem?_eq_none (by rw [List.length_set,List.length_replicate]; omega),List.getElem?_eq_none (by rw [iI]; omega)]
theorem aBU {n v k : Nat} {R : List Nat} {f : Nat→Nat} (hv : v < n) : (rowV n R f).set v (V.int ((k : Nat) : Int)) = rowV n (R ++ [v]) (put f v k):=by
 apply List.ext_getElem?
 intro x
 by_cases hx : x < n
 ·rw [iJ hx]
  by_cases e : x = v
  ·subst e
   rw [List.getElem?_set_self (by rw [iI]; exact hx),if_pos (by simp),iF]
  ·rw [List.getElem?_set_ne (fun z=>e z.symm),iJ hx,dP e]
   by_cases h : x∈R
   ·rw [if_pos h,if_pos (List.mem_append_left _ h)]
   ·rw [if_neg h,if_neg (fun z=>(List.mem_append.mp z).elim h fun z=>e (by simpa using z))]
 ·rw [List.getElem?_eq_none (by rw [List.length_set,iI]; omega),List.getElem?_eq_none (by rw [iI]; omega)]
def aEP (σ : St) : Nat:=match σ[4]? with
 | some (some (V.int z))=>z.toNat
 | _=>0
theorem nbO : (["others"] : List Str).Nodup:=by decide +kernel
def jJ (H : Hp) (ol : Addr) (n : Nat) (ts : Ts) : Prop:=∃ bs : List Addr,H ol = some (.lst (bs.map V.ref))∧Holds H bs n (fun h=>.lst (NV (outN n ts h)))
theorem jJ.same {H H' : Hp} {ol : Addr} {n : Nat} {ts : Ts} (x : jJ H ol n ts) (e : Same H H') : jJ H' ol n ts:=let ⟨bs,a,b⟩:=x; ⟨bs,e _ _ a,b.mono fun _ _ z=>e _ _ z⟩
theorem rY {as : List Addr} {i : Nat} {x : V} (h : (as.map V.ref)[i]? = some x) : i < as.length∧x = .ref (as.getD i 0):=by
 rw [List.getElem?_map] at h
 cases e : as[i]? with
 | none=>rw [e] at h; cases h
 | some a =>
  rw [e] at h
  refine ⟨(List.getElem?_eq_some_iff.mp e).1,?_⟩
  rw [List.getD_eq_getElem?_getD,e]
  exact (Option.some.inj h).symm
section
variable {P : Program} {w : World} {K : W.Frag} {mg : Str→Option Value} {base : Heap}
theorem iK : aM ["out_lists", "start", "distances", "reached", "at", "house", "other"] ["out_lists", "start"] (aG yV):=⟨rfl,rfl,rfl,by decide +kernel,rfl,by decide +kernel,by decide +kernel⟩
def oW : Sp:=fun vs H Q _=>∃ (ol : Addr) (n s : Nat) (ts : Ts),vs = [.ref ol,.int s]∧Fine n ts∧s < n∧jJ H ol n ts ∧
 ∀ (r : Addr) (H' : Hp),Same H H'→H r = none→H' r = some (.lst (NV ((List.range n).map (far ts s))))→Q (.ref r) H'
theorem aDc {f : Addr} {fd : FuncData} (F : Fun K "distances_from" "distances_from" yV f fd) (B : Bl mg) : FnOk P w K mg base CX0 1 f fd ["out_lists", "start"] oW:=by
 refine F.ok iK (fun vs H Q E h=>?_) (fun cdv A outer s H vs Q E hr h=>?_)
 ·obtain ⟨ol,n,s,ts,rfl,_⟩:=h
  rfl
 ·obtain ⟨ol,n,st,ts,rfl,fi,hs,O,k⟩:=h
  have n1:=fi.n1
  have n2:=fi.n2
  refine' ⟨_,aE (fE (i:=2) (g:=bE 0) (NB:=["others"]) (src:=[none]) (bU (by kernel_rfl)) rfl (bX (pv 0)) ?g ?t ?e iK.nd rfl rfl rfl)
   (aE (iY aK (nS (pv 2) (pv 1) jR))
   (aE (aS (i:=3) iK.nd rfl (Or.inl rfl) (cT (aA (pv 1) aB)))
   (aE (aS (i:=4) iK.nd rfl (Or.inl rfl) aK)
   (aE (sF PassesOwn.never (bA nV (pv 4) (aO bV (by rfl) B.len PySem.boot_len (aA (pv 3) aB)) (bB _))
    (aE (aS (i:=5) iK.nd rfl (Or.inl rfl) (bL aX (pv 3) (pv 4) (fun _ _=>rfl)))
    (aE (cJ PassesOwn.never rfl (bX (bL aX (pv 0) (pv 5) (fun _ _=>rfl))) (aL (i:=6) iK.nd rfl (Or.inl rfl))
     (aI (bR (bA nW (bL aX (pv 2) (pv 6) (fun _ _=>rfl)) dZ (bB _))
      (aE (iY (aV cZ (bL aX (pv 2) (pv 5) (fun _ _=>rfl)) aK) (nS (pv 2) (pv 6) jR))
      (aI (cH (gB PySem.F.plainAttrs_list PySem.F.slot_list_append PySem.F.type_list_append dA (pv 3) (aA (pv 6) aB))))) aZ)))
    (aI (sD (i:=4) iK.nd rfl (Or.inl rfl) aK aDL)))))
   (aI (aU (pv 2))))))),?_⟩
  case g=>exact fun cl C s₃ H₃ fp=>aL (i:=0) nbO rfl (Or.inl rfl) (Or.inr rfl)
  case t=>exact fun cl C s₃ H₃ fp=>cF
  case e=>exact fun cl C s₃ H₃ fp=>dZ
  obtain ⟨bs,hol,hbl,hbs⟩:=id O
  refine ⟨_,rfl,ol,rfl,⟨_,SqL.of hol⟩,fun D hD=>?_⟩
  have nol : ol ≠ D:=aJ hol hD
  refine cQ (xs:=bs.map V.ref) (fun i ys σ H2=>(∃ a,σ = [a])∧ys = List.replicate i V.non∧H2 = upd H D (.lst ys)) ⟨⟨_,rfl⟩,rfl,rfl⟩ (fun i ys σ H2 _ ⟨_,_,e⟩=>by rw [e]; exact SqL.of (by rw [aH nol]; exact hol)) ?_ ?_
  ·rintro i x ys σ H2 Kt Kf hx ⟨⟨a,rfl⟩,rfl,rfl⟩ kt kf
   have hi:=(rY hx).1
   refine kt _ _ _ aD ?_ ⟨⟨_,rfl⟩,?_,by rw [fL]⟩
   ·rw [List.length_replicate]
    exact Nat.lt_of_lt_of_le hi (by rw [hbl]; exact Nat.le_trans n2 (by decide))
   ·rw [List.replicate_succ']
  ·rintro ys σ H2 ⟨_,rfl,rfl⟩
   rw [List.length_map,hbl]
   refine ⟨_,rfl,_,rfl,D,_,st,st,rfl,rfl,aD,by rw [List.length_replicate]; exact jE hs,?_⟩
   rw [fL,yW hs]
   refine ⟨_,rfl,by show 1 ≤ sizeLine; decide,fun R hR=>?_⟩
   have nDR : D ≠ R:=aJ (H:=upd H D (.lst (rowV n [st] (fun _=>0)))) aD hR
   have hR0 : H R = none:=by rw [aH nDR.symm] at hR; exact hR
   refine sG (fun σ H2=>∃ (i : Nat) (Rs : List Nat) (f : Nat→Nat),i ≤ Rs.length∧Bfs n ts st i Rs f∧(∃ a b,σ = [some (.ref ol),some (.int st),some (.ref D),some (.ref R),some (.int (i : Int)),a,b])∧Same H H2∧H2 D = some (.lst (rowV n Rs f))∧H2 R = some (.lst (NV Rs)))
    (fun σ _=>n - aEP σ) ⟨0,[st],fun _=>0,Nat.zero_le _,Bfs.start hs,⟨none,none,rfl⟩,bP (aF hD) hR0,?_,aD⟩ ?_ ?_
   ·rw [aH nDR,aD]
   ·rintro σ H2 ⟨i,Rs,f,hi,Bf,⟨a,b,rfl⟩,sm,hD2,hR2⟩
    have hRn : Rs.length ≤ n:=dG Bf.nd Bf.lt
    refine ⟨_,rfl,_,rfl,R,_,rfl,.inl (SqL.of hR2),_,_,rfl,rfl,_,rfl,?_⟩
    rw [aN]
    by_cases hin : i < Rs.length
    ·rw [show decide ((i : Int) < ((Rs.length : Nat) : Int)) = true by simp; omega]
     refine iteT ?_
     have hu : Rs[i]? = some Rs[i]:=List.getElem?_eq_getElem hin
     generalize Rs[i] = u at hu
     have hun : u < n:=Bf.lt u (List.mem_of_getElem? hu)
     have huR : (NV Rs)[i]? = some (.int (u : Int)):=by rw [List.getElem?_map,hu]; rfl
     refine ⟨_,rfl,_,rfl,R,_,_,_,rfl,rfl,SqL.of hR2,aW huR,?_⟩
     have hb1 : (bs.map V.ref)[u]? = some (.ref (bs.getD u 0)):=by
      rw [List.getElem?_map,List.getD_eq_getElem?_getD,List.getElem?_eq_getElem (by rw [hbl]; exact hun)]; rfl
     have hb2:=sm _ _ (hbs _ hun)
     refine ⟨_,rfl,_,rfl,ol,_,_,_,rfl,rfl,SqL.of (sm _ _ hol),aW hb1,_,rfl,⟨_,SqL.of hb2⟩,?_⟩
     have nbD : bs.getD u 0 ≠ D:=aJ (hbs _ hun) hD
     have nbR : bs.getD u 0 ≠ R:=aJ (hbs _ hun) hR0
     refine eT (K:=K) (xs:=NV (outN n ts u)) (fun j σ H3=>∃ (Rs' : List Nat) (f' : Nat→Nat),Bfs n ts st i Rs' f'∧Rs'[i]? = some u∧(∀ v∈(outN n ts u).take j,v∈Rs'∧f' v ≤ f' u + 1) ∧
      (∃ b,σ = [some (.ref ol),some (.int st),some (.ref D),some (.ref R),some (.int (i : Int)),some (.int (u : Int)),b])∧Same H H3∧H3 D = some (.lst (rowV n Rs' f'))∧H3 R = some (.lst (NV Rs')))
      ⟨Rs,f,Bf,hu,fun v hv=>by simp at hv,⟨_,rfl⟩,sm,hD2,hR2⟩ (fun j σ H3 _ ⟨_,_,_,_,_,_,sm3,_⟩=>SqL.of (sm3 _ _ (hbs _ hun))) ?_ ?_
     ·rintro j x σ H3 hx ⟨Rs',f',Bf',hu',dn,⟨b',rfl⟩,sm3,hD3,hR3⟩
      rw [List.getElem?_map] at hx
      cases hv : (outN n ts u)[j]? with
      | none=>rw [hv] at hx; cases hx
      | some v =>
       rw [hv] at hx
       obtain rfl : V.int ((v : Nat) : Int) = x:=Option.some.inj hx
       have hvm : v∈outN n ts u:=List.mem_of_getElem? hv
       have hvn : v < n:=pP fi hun hvm
       have tuv : T ts u v:=(dM fi hun).mp hvm
       have tk : (outN n ts u).take (j + 1) = (outN n ts u).take j ++ [v]:=by rw [List.take_add_one,hv]; rfl
       have hun' : u∈Rs':=List.mem_of_getElem? hu'
       refine ⟨_,rfl,_,rfl,D,_,_,_,rfl,rfl,SqL.of hD3,aW (iJ hvn),rfl,_,rfl,?_⟩
       by_cases hvR : v∈Rs'
       ·rw [if_pos hvR]
        refine iteF ⟨Rs',f',Bf',hu',fun x hx=>?_,⟨_,rfl⟩,sm3,hD3,hR3⟩
        rw [tk] at hx
        rcases List.mem_append.mp hx with z | z
        ·exact dn x z
        ·simp at z; subst z; exact ⟨hvR,Bf'.bd u hu' _ hvR⟩
       ·rw [if_neg hvR]
        refine iteT ?_
        have hg2 : (rowV n Rs' f')[u]? = some (.int ((f' u : Nat) : Int)):=by rw [iJ hun,if_pos hun']
        refine ⟨_,rfl,_,rfl,D,_,_,_,rfl,rfl,SqL.of hD3,aW hg2,_,_,rfl,rfl,_,rfl,_,rfl,D,_,_,_,rfl,rfl,hD3,by rw [iI]; exact jE hvn,?_⟩
        have e1 : (rowV n Rs' f').set v (.int (((f' u : Nat) : Int) + 1)) = rowV n (Rs' ++ [v]) (put f' v (f' u + 1)):=by
         rw [show ((f' u : Nat) : Int) + 1 = ((f' u + 1 : Nat) : Int) by omega,aBU hvn]
        rw [e1]
        have hR4 : (upd H3 D (.lst (rowV n (Rs' ++ [v]) (put f' v (f' u + 1))))) R = some (.lst (NV Rs')):=by rw [aH nDR.symm]; exact hR3
        have hlen' : Rs'.length ≤ n:=dG Bf'.nd Bf'.lt
        refine ⟨_,rfl,.inl ⟨rfl,_,SqL.of hR4⟩,_,rfl,R,_,_,rfl,rfl,hR4,by rw [aN]; exact Nat.lt_of_lt_of_le (show Rs'.length < 33 by omega) (by decide),?_⟩
        have hi' : i < Rs'.length:=(List.getElem?_eq_some_iff.mp hu').1
        have nuv : u ≠ v:=fun z=>hvR (z ▸ hun')
        refine ⟨Rs' ++ [v],put f' v (f' u + 1),Bf'.add hu' hvn tuv hvR,by rw [List.getElem?_append_left hi']; exact hu',fun x hx=>?_,⟨_,rfl⟩,bP (bP sm3 hD) hR0,?_,?_⟩
        ·rw [dP nuv]
         rw [tk] at hx
         rcases List.mem_append.mp hx with z | z
         ·obtain ⟨q1,q2⟩:=dn x z
          exact ⟨List.mem_append_left _ q1,by rw [dP (fun (z : x = v)=>hvR (z ▸ q1))]; exact q2⟩
         ·simp at z; subst z
          exact ⟨by simp,by rw [iF]; exact Nat.le_refl _⟩
        ·rw [aH nDR,aD]
        ·rw [aD]; show _ = some (HO.lst (NV (Rs' ++ [v]))); rw [show NV (Rs' ++ [v]) = NV Rs' ++ [.int (v : Int)] by unfold NV; rw [List.map_append]; rfl]
     ·rintro σ H3 ⟨Rs',f',Bf',hu',dn,⟨b',rfl⟩,sm3,hD3,hR3⟩
      rw [aN,List.take_length] at dn
      have hi' : i < Rs'.length:=(List.getElem?_eq_some_iff.mp hu').1
      have hlen' : Rs'.length ≤ n:=dG Bf'.nd Bf'.lt
      refine ⟨_,rfl,_,_,rfl,rfl,⟨⟨i + 1,Rs',f',hi',Bf'.next hu' (fun v t=>dn v ((dM fi hun).mpr t)),⟨_,_,rfl⟩,sm3,hD3,hR3⟩,?_⟩⟩
      show n - ((i : Int) + 1).toNat < n - (i : Int).toNat
      omega
    ·rw [show decide ((i : Int) < ((Rs.length : Nat) : Int)) = false by rw [decide_eq_false_iff_not]; omega]
     have e : rowV n Rs f = NV ((List.range n).map (far ts st)):=by
      unfold rowV NV
      rw [List.map_map]
      refine List.map_congr_left fun x hx=>?_
      obtain ⟨q1,q2⟩:=Bf.done fi (by omega) (List.mem_range.mp hx)
      rw [if_pos q1,q2]; rfl
     rw [e] at hD2
     refine iteF ⟨_,rfl,k D H2 sm hD hD2⟩
   ·rintro σ H2 Q1 Q2 imp ⟨v,e1,v2,e2,p,ys,e3,e4,i1,i2,e5,e6,kk,e7,q⟩
    exact ⟨v,e1,v2,e2,p,ys,e3,e4,i1,i2,e5,e6,kk,e7,imp _ _ q⟩
end
end K12
namespace K12
open PySem L2 NetM
theorem aCo : (["row"] : List Str).Nodup:=by decide +kernel
section
variable {P : Program} {w : World} {K : W.Frag} {mg : Str→Option Value} {base : Heap}
theorem aDd : aM ["distances"] ["distances"] (aG uA):=⟨rfl,rfl,rfl,by decide +kernel,rfl,by decide +kernel,by decide +kernel⟩
def pZ : Sp:=fun vs H Q _=>∃ (l : Addr) (ds : List Addr) (n : Nat) (o : Nat→List V),vs = [.ref l]∧H l = some (.lst (ds.map V.ref))∧n ≤ 32∧Holds H ds n (fun j=>.lst (o j))∧(∀ j,j < n→∀ x∈o j,∃ i,x = .int i)∧∀ H',Same H H'→Q .non H'
theorem aBV {f : Addr} {fd : FuncData} (F : Fun K "check_reached" "check_reached" uA f fd) (B : Bl mg) : FnOk P w K mg base CX0 1 f fd ["distances"] pZ:=by
 refine F.ok aDd (fun vs H Q E h=>?_) (fun cdv A outer s H vs Q E hr h=>?_)
 ·obtain ⟨l,ds,n,o,rfl,_⟩:=h
  rfl
 ·obtain ⟨l,ds,n,o,rfl,hl,n2,hh,hx,k⟩:=h
  refine' ⟨_,aI (bR (cP (aO (aAq rfl) (by rfl) B.any PyProof.Rows.boot_any (aA ?c aB))) bZ aZ),?_⟩
  case c =>
   refine' cC (g:=bE 0) (te:=tOp (rIn K false) (tC .non) (tVar 0)) (NB:=["row"]) (src:=[none]) (bU (by kernel_rfl)) rfl (bX (pv 0)) ?g ?t ?e
   case g=>exact fun cl C s₃ H₃ fp=>aL (i:=0) aCo rfl (Or.inl rfl) (Or.inr rfl)
   case t=>exact fun cl C s₃ H₃ fp=>cF
   case e=>exact fun cl C s₃ H₃ fp=>hG zV dZ (pv 0) rfl
  refine ⟨_,rfl,l,rfl,⟨_,SqL.of hl⟩,fun D hD=>?_⟩
  have nl : l ≠ D:=aJ hl hD
  refine cQ (xs:=ds.map V.ref) (fun i ys σ H2=>(∃ a,σ = [a])∧ys = (List.replicate i false).map V.bl∧H2 = upd H D (.lst ys)) ⟨⟨_,rfl⟩,rfl,rfl⟩ (fun i ys σ H2 _ ⟨_,_,e⟩=>by rw [e]; exact SqL.of (by rw [aH nl]; exact hl)) ?_ ?_
  ·rintro i x ys σ H2 Kt Kf hxi ⟨⟨a,rfl⟩,rfl,rfl⟩ kt kf
   obtain ⟨hi,rfl⟩:=rY hxi
   rw [hh.1] at hi
   have hd:=hh.2 i hi
   have nd : ds.getD i 0 ≠ D:=aJ hd hD
   have q1 : (o i).all dX = true:=List.all_eq_true.mpr fun x hx'=>by obtain ⟨z,rfl⟩:=hx i hi x hx'; rfl
   have q2 : inV .non (o i) = false:=by
    unfold inV
    rw [List.any_eq_false]
    intro x hx'
    obtain ⟨z,rfl⟩:=hx i hi x hx'
    exact fun z=>by cases z
   refine ⟨_,rfl,_,_,rfl,.inl (SqL.of (by rw [aH nd]; exact hd)),rfl,q1,?_⟩
   refine kt _ _ _ aD ?_ ⟨⟨_,rfl⟩,?_,by rw [fL]⟩
   ·rw [List.length_map,List.length_replicate]
    exact Nat.lt_of_lt_of_le hi (Nat.le_trans n2 (by decide))
   ·rw [List.replicate_succ',List.map_append,q2]; rfl
  ·rintro ys σ H2 ⟨_,rfl,rfl⟩
   refine ⟨D,_,rfl,SqL.of aD,_,rfl,?_⟩
   have e : (List.replicate (ds.map V.ref).length false).any id = false:=by
    rw [List.any_eq_false]; intro x hx'; rw [(List.mem_replicate.mp hx').2]; decide
   rw [e]
   exact iteF (k _ (aF hD))
end
end K12
namespace K12
open PySem L2 NetM
theorem nb2 : (["one", "other"] : List Str).Nodup:=by decide +kernel
theorem aEQ : (["house", "many", "ties"] : List Str).Nodup:=by decide +kernel
theorem nbHS : (["house", "self"] : List Str).Nodup:=by decide +kernel
def gT (p Pt : Addr) (H H' : Hp) : Prop:=∀ b o,H b = some o→b ≠ p→b ≠ Pt→H' b = some o
theorem cX.mono {p Pt : Addr} {H H' : Hp} {l : Addr} {n : Nat} {zs : Zs} {C dx : Addr} {fs : List (Str × V)} (h : cX H l n zs) (e : gT p Pt H H') (hp : H p = some (.ins C dx fs)) (tb : Tab Pt H) : cX H' l n zs :=
 ⟨h.fine,e _ _ h.at_ (cU h.at_ hp (by intro z; cases z)) (tb.not h.at_ (by intro ps z; cases z)),fun z hz=>e _ _ (h.po z hz) (cU (h.po z hz) hp (by intro z; cases z)) (tb.not (h.po z hz) (by intro ps z; cases z))⟩
theorem Tab.mono {p Pt C dx : Addr} {fs : List (Str × V)} {H H' : Hp} (t : Tab Pt H) (e : ∀ b o,H b = some o→b ≠ p→H' b = some o) (hp : H p = some (.ins C dx fs)) : Tab Pt H':=by
 rcases t with z | ⟨c,z,y⟩
 ·exact .inl (e _ _ z (cU z hp (by intro q; cases q)))
 ·exact .inr ⟨c,e _ _ z (cU z hp (by intro q; cases q)),e _ _ y (cU y hp (by intro q; cases q))⟩
theorem Tab.full {Pt : Addr} {H : Hp} (t : Tab Pt H) : H Pt ≠ none:=by
 rcases t with z | ⟨c,z,y⟩ <;> rw [z] <;> intro q <;> cases q
theorem gT.free {p Pt r : Addr} {H H' : Hp} (s : gT p Pt H H') (hp : H' p ≠ none) (tb : Tab Pt H') (h : H' r = none) : H r = none:=by
 cases z : H r with
 | none=>rfl
 | some o =>
  by_cases e1 : r = p
  ·subst e1; exact absurd h hp
  ·by_cases e2 : r = Pt
   ·subst e2; exact absurd h tb.full
   ·rw [s r o z e1 e2] at h; cases h
theorem aER {σ : St} {H : Hp} {k : List V→Hp→Prop} (h : k [] H) : tNil σ H k:=h
theorem hV {H : Hp} {p : Addr} {o : HO} (h : H p = some o) : H p ≠ none:=by rw [h]; intro z; cases z
section
variable {P : Program} {w : World} {K : W.Frag} {mg : Str→Option Value} {base : Heap}
theorem aEc : aM ["self", "many", "ties"] ["self", "many", "ties"] (aG rT):=⟨rfl,rfl,rfl,by decide +kernel,rfl,by decide +kernel,by decide +kernel⟩
def uB (C Pt : Addr) : Sp:=fun vs H Q E=>∃ (p dx : Addr) (n : Nat) (l : Addr) (zs : Zs),vs = [.ref p,.int n,.ref l]∧H p = some (.ins C dx [])∧cX H l n zs∧Tab Pt H ∧
  ∀ H',cD C H' (fun a=>H a = none) p n (zp zs)→Tab Pt H'→gT p Pt H H'→Q .non H'
theorem aDe {f C Pt : Addr} {fd : FuncData} (F : Fun K "__init__" "Net.__init__" rT f fd) (T : NT K mg C) (B : Bl mg) (CT : Cal P w K mg base CX0 6 "check_ties" ["many", "ties"] hU) (CB : Cal P w K mg base CX0 1 "check_balance" ["many", "ties"] hU)
  (HO' : Cal P w K mg base CX0 1 "houses_out" ["many", "ties", "house"] (oV Pt)) (DF : Cal P w K mg base CX0 1 "distances_from" ["out_lists", "start"] oW) (CR : Cal P w K mg base CX0 1 "check_reached" ["distances"] pZ) :
  FnOk P w K mg base CX0 7 f fd ["self", "many", "ties"] (uB C Pt):=by
 refine F.ok aEc (fun vs H Q E h=>?_) (fun cdv A outer s H vs Q E hr h=>?_)
 ·obtain ⟨p,dx,n,l,zs,rfl,_⟩:=h
  rfl
 ·have hr1 : Room 1 _:=hr.mono (by decide)
  refine' ⟨_,aE (cH (aQ CT hr aR (aA (pv 1) (aA (pv 2) aB))))
   (aE (cH (aQ CB hr1 aR (aA (pv 1) (aA (pv 2) aB))))
   (aE (oA (pv 0) (pv 1) rfl)
   (aE (oA (pv 0) (aO yJ (by rfl) B.sorted PyProof.Rows.boot_sorted (aA ?c1 aB)) rfl)
   (aE (oA (pv 0) ?c2 rfl)
   (aE (oA (pv 0) ?c3 rfl)
   (aI (cH (aQ CR hr1 aR (aA (dN (pv 0) rfl) aB))))))))),?_⟩
  case c1 =>
   refine' cC (g:=gTup K 2 (eE (bE 0) (eE (bE 1) gNil))) (te:=tTup (aY (tVar 0) (aY (tVar 1) tNil))) (NB:=["one", "other"]) (src:=[none,none]) (bU (by kernel_rfl)) rfl (bX (pv 2)) ?g ?t ?e
   case g=>exact fun cl C s₃ H₃ fp=>eL (n:=2) rfl (bQ (aL (i:=0) nb2 rfl (Or.inl rfl) (Or.inr rfl)) (bQ (aL (i:=1) nb2 rfl (Or.inl rfl) (Or.inr rfl)) dS))
   case t=>exact fun cl C s₃ H₃ fp=>cF
   case e=>exact fun cl C s₃ H₃ fp=>cW (aA (pv 0) (aA (pv 1) aB))
  case c2 =>
   refine' cC (g:=bE 0) (te:=gA (oV Pt) [] E0 (aY (tVar 1) (aY (tVar 2) (aY (tVar 0) tNil)))) (NB:=["house", "many", "ties"]) (src:=[none,some 1,some 2]) (bU (by kernel_rfl)) rfl (cA rfl B.range (aA (pv 1) aB)) ?g ?t ?e
   case g=>exact fun cl C s₃ H₃ fp=>aL (i:=0) aEQ rfl (Or.inl rfl) (Or.inr rfl)
   case t=>exact fun cl C s₃ H₃ fp=>cF
   case e=>exact fun cl C s₃ H₃ fp=>aQ HO' hr1 aR (aA (pv 1) (aA (pv 2) (aA (pv 0) aB)))
  case c3 =>
   refine' cC (g:=bE 0) (te:=gA oW [] E0 (aY (tFld K (tVar 1) "out_lists") (aY (tVar 0) tNil))) (NB:=["house", "self"]) (src:=[none,some 0]) (bU (by kernel_rfl)) rfl (cA rfl B.range (aA (pv 1) aB)) ?g ?t ?e
   case g=>exact fun cl C s₃ H₃ fp=>aL (i:=0) nbHS rfl (Or.inl rfl) (Or.inr rfl)
   case t=>exact fun cl C s₃ H₃ fp=>cF
   case e=>exact fun cl C s₃ H₃ fp=>aQ DF hr1 aR (aA (dN (pv 1) rfl) (aA (pv 0) aB))
  obtain ⟨p,dx,n,l,zs,rfl,hp,TT,tb,k⟩:=h
  have fi:=TT.fine
  have n1:=fi.n1
  have n2:=fi.n2
  have hlen : zs.length ≤ 256:=by have:=fi.len; rw [bK] at this; exact this
  refine ⟨_,rfl,_,rfl,n,l,zs,rfl,TT,fun H1 s1=>?_⟩
  refine ⟨_,rfl,_,rfl,n,l,zs,rfl,TT.same s1,fun H2 s2=>?_⟩
  have s12 : Same H H2:=s1.trans s2
  refine ⟨_,rfl,_,rfl,p,C,dx,[],rfl,s12 _ _ hp,T.cl,T.nH,(by show 0 < 1000; decide),?_⟩
  let G1 : Hp:=upd H2 p (.ins C dx (putF "house_count" (.int n) []))
  have d1 : gT p Pt H G1:=fun b o e h1 _=>by show upd _ _ _ _ = _; rw [aH h1]; exact s12 _ _ e
  have g1p : G1 p = some (.ins C dx (putF "house_count" (.int n) [])):=aD
  have TT1 : cX G1 l n zs:=TT.mono d1 hp tb
  have tb1 : Tab Pt G1:=tb.mono (fun b o e h1=>by show upd _ _ _ _ = _; rw [aH h1]; exact s12 _ _ e) hp
  refine ⟨_,rfl,l,rfl,⟨_,SqL.of TT1.at_⟩,fun D hD=>?_⟩
  refine aBR (fun y=>y) (fun σ=>∃ a b,σ = [a,b]) TT1.at_ TT1.po hD (by omega) ⟨_,_,rfl⟩ ?_ ?_
  ·rintro z σ H3 R Kf hz ⟨a,b,rfl⟩ ha kk
   refine ⟨_,_,rfl,SqT.of ha,rfl,_,_,rfl,_,_,rfl,rfl,?_⟩
   exact ⟨_,rfl,_,rfl,by show 2 ≤ sizeLine; decide,fun t ht=>kk _ _ ⟨_,_,rfl⟩ ht⟩
  ·intro zs2 H3 sm hD3 po3 ez fr2
   rw [List.map_id'] at ez
   have hl2 : zs2.length = zs.length:=by rw [← bK,ez,bK]
   refine aER ?_
   refine aC7 hD3 po3 (by omega) (fun u hu=>by have:=(fi.rg u (ez ▸ hu)).2; omega) fun tl zs3 htl pm ord=>?_
   have htlN : H tl = none:=d1.free (hV g1p) tb1 (sm.free htl)
   have fr3 : ∀ z∈zs3,H z.1 = none:=fun z hz=>d1.free (hV g1p) tb1 (fr2 z (pm.mem_iff.mp hz))
   have e3p : H3 p = some (.ins C dx (putF "house_count" (.int n) [])):=sm _ _ g1p
   have nptl : p ≠ tl:=aJ e3p htl
   refine ⟨_,rfl,p,C,dx,_,rfl,by rw [aH nptl]; exact e3p,T.cl,T.nT,by show 1 < 1000; decide,?_⟩
   let G2 : Hp:=upd (upd H3 tl (.lst (zr zs3))) p (.ins C dx (putF "tie_list" (.ref tl) (putF "house_count" (.int n) [])))
   have q2 : ∀ b o,H3 b = some o→b ≠ p→G2 b = some o:=fun b o e h1=>by
    show upd _ _ _ _ = _
    rw [aH h1,aH (aJ e htl)]; exact e
   have d2 : gT p Pt H G2:=fun b o e h1 h2=>q2 _ _ (sm _ _ (d1 _ _ e h1 h2)) h1
   have g2t : G2 tl = some (.lst (zr zs3)):=by show upd _ _ _ _ = _; rw [aH nptl.symm,aD]
   have g2o : PO G2 zs3:=fun z hz=>q2 _ _ (po3 z (pm.mem_iff.mp hz)) (cU (po3 z (pm.mem_iff.mp hz)) e3p (by intro z; cases z))
   have g2p : G2 p = some (.ins C dx (putF "tie_list" (.ref tl) (putF "house_count" (.int n) []))):=aD
   have TT2 : cX G2 l n zs:=TT.mono d2 hp tb
   have tb2 : Tab Pt G2:=tb1.mono (fun b o e h1=>q2 _ _ (sm _ _ e) h1) g1p
   refine ⟨_,rfl,n,rfl,by omega,by omega,fun D2 hD2=>?_⟩
   refine cV (n:=n) (lo:=0) (fun i ys σ H4=>(∃ a,σ = [a,some (.int n),some (.ref l)])∧∃ bs : List Addr,ys = bs.map V.ref∧(∀ b∈bs,H b = none)∧Holds H4 bs i (fun h=>.lst (NV (outN n (zp zs) h)))∧iQ Pt G2 H4∧Tab Pt H4∧H4 D2 = some (.lst ys)∧∀ b∈bs,b ≠ D2)
    ⟨⟨_,rfl⟩,[],rfl,(fun _ h=>nomatch h),Holds.nil,iQ.of (aF hD2),tb2.same (aF hD2),aD,(fun _ h=>nomatch h)⟩ ?_ ?_
   ·rintro i ys σ H4 Kt Kf hi ⟨⟨a,rfl⟩,bs,rfl,hbN,hb,sm4,tb4,hD4,hbD⟩ kt kf
    have TT4 : cX H4 l n zs:=TT2.mono (p:=p) (fun b o e _ h2=>sm4 _ _ e h2) g2p tb2
    have e4p:=sm4 _ _ g2p (tb2.not g2p (by intro ps z; cases z))
    refine ⟨_,rfl,_,rfl,_,rfl,n,l,i,zs,by rw [Int.zero_add]; rfl,hi,TT4,tb4,fun r H5 t5 st5 hr4 hr5=>?_⟩
    have hrN : H r = none:=gT.free (fun b o e h1 h2=>sm4 _ _ (d2 _ _ e h1 h2) h2) (hV e4p) tb4 hr4
    have e5D : H5 D2 = some (.lst (bs.map V.ref)):=st5 _ _ hD4 (tb4.not hD4 (by intro ps z; cases z))
    have nrD : r ≠ D2:=by rintro rfl; rw [hD4] at hr4; cases hr4
    have keepD : ∀ b o ys',H5 b = some o→b ≠ D2→(upd H5 D2 ys') b = some o:=fun b o ys' e h=>by rw [aH h]; exact e
    refine kt _ _ _ e5D (by rw [List.length_map,hb.1]; exact Nat.lt_of_lt_of_le hi (Nat.le_trans n2 (by decide))) ⟨⟨_,rfl⟩,bs ++ [r],by rw [List.map_append]; rfl,?_,?_,?_,?_,aD,?_⟩
    ·intro b hb'
     rcases List.mem_append.mp hb' with z | z
     ·exact hbN b z
     ·rw [List.mem_singleton.mp z]; exact hrN
    ·refine Holds.snoc (hb.mono fun j hj e=>?_) (keepD _ _ _ hr5 nrD)
     refine keepD _ _ _ (st5 _ _ e (tb4.not e (by intro ps z; cases z))) (hbD _ ?_)
     rw [List.getD_eq_getElem?_getD,List.getElem?_eq_getElem (by rw [hb.1]; exact hj)]; exact List.getElem_mem _
    ·intro b o e h
     exact keepD _ _ _ (st5 _ _ (sm4 _ _ e h) h) (aJ e hD2)
    ·rcases t5 with z | ⟨c,z,y⟩
     ·exact .inl (keepD _ _ _ z (cU z e5D (by intro q; cases q)))
     ·exact .inr ⟨c,keepD _ _ _ z (cU z e5D (by intro q; cases q)),keepD _ _ _ y (cU y e5D (by intro q; cases q))⟩
    ·intro b hb'
     rcases List.mem_append.mp hb' with z | z
     ·exact hbD b z
     ·rw [List.mem_singleton.mp z]; exact nrD
   ·rintro ys σ H4 ⟨_,bs,rfl,hbN,hb,sm4,tb4,hD4,hbD⟩
    have e4p : H4 p = some (.ins C dx (putF "tie_list" (.ref tl) (putF "house_count" (.int n) []))):=sm4 _ _ g2p (tb2.not g2p (by intro ps z; cases z))
    have hD2N : H D2 = none:=d2.free (hV g2p) tb2 hD2
    refine ⟨_,rfl,p,C,dx,_,rfl,e4p,T.cl,T.nO,by have h1:=dC "tie_list" (V.ref tl) (putF "house_count" (V.int n) []); have h2:=dC "house_count" (V.int n) []; simp at h2; omega,?_⟩
    let G3 : Hp:=upd H4 p (.ins C dx (putF "out_lists" (.ref D2) (putF "tie_list" (.ref tl) (putF "house_count" (.int n) []))))
    have q3 : ∀ b o,H4 b = some o→b ≠ p→G3 b = some o:=fun b o e h1=>by show upd _ _ _ _ = _; rw [aH h1]; exact e
    have g3p : G3 p = some (.ins C dx (putF "out_lists" (.ref D2) (putF "tie_list" (.ref tl) (putF "house_count" (.int n) [])))):=aD
    have d3 : gT p Pt H G3:=fun b o e h1 h2=>q3 _ _ (sm4 _ _ (d2 _ _ e h1 h2) h2) h1
    have tb3 : Tab Pt G3:=tb4.mono q3 e4p
    have hb3 : Holds G3 bs n (fun h=>.lst (NV (outN n (zp zs) h))):=hb.mono fun j hj e=>q3 _ _ e (cU e e4p (by intro z; cases z))
    have g3D : G3 D2 = some (.lst (bs.map V.ref)):=q3 _ _ hD4 (cU hD4 e4p (by intro z; cases z))
    have O3 : jJ G3 D2 n (zp zs):=⟨bs,g3D,hb3⟩
    refine ⟨_,rfl,n,rfl,by omega,by omega,fun D3 hD3'=>?_⟩
    refine cV (n:=n) (lo:=0) (fun i ys σ H6=>(∃ a,σ = [a,some (.ref p)])∧∃ ds : List Addr,ys = ds.map V.ref∧(∀ b∈ds,H b = none)∧Holds H6 ds i (fun s=>.lst (NV ((List.range n).map (far (zp zs) s))))∧Same G3 H6∧H6 D3 = some (.lst ys)∧∀ b∈ds,b ≠ D3)
     ⟨⟨_,rfl⟩,[],rfl,(fun _ h=>nomatch h),Holds.nil,aF hD3',aD,(fun _ h=>nomatch h)⟩ ?_ ?_
    ·rintro i ys σ H6 Kt Kf hi ⟨⟨a,rfl⟩,ds,rfl,hdN,hd,sm6,hD6,hdD⟩ kt kf
     refine ⟨_,rfl,p,C,dx,_,_,rfl,sm6 _ _ g3p,T.cl,T.nO,by rw [bC,if_pos rfl],_,rfl,D2,n,i,zp zs,by rw [Int.zero_add]; rfl,fi,hi,O3.same sm6,fun r H7 st7 hr6 hr7=>?_⟩
     have e7D : H7 D3 = some (.lst (ds.map V.ref)):=st7 _ _ hD6
     have nrD : r ≠ D3:=by rintro rfl; rw [hD6] at hr6; cases hr6
     have hrN : H r = none:=gT.free (fun b o e h1 h2=>sm6 _ _ (d3 _ _ e h1 h2)) (hV (sm6 _ _ g3p)) (tb3.same sm6) hr6
     have keepD : ∀ b o ys',H7 b = some o→b ≠ D3→(upd H7 D3 ys') b = some o:=fun b o ys' e h=>by rw [aH h]; exact e
     refine kt _ _ _ e7D (by rw [List.length_map,hd.1]; exact Nat.lt_of_lt_of_le hi (Nat.le_trans n2 (by decide))) ⟨⟨_,rfl⟩,ds ++ [r],by rw [List.map_append]; rfl,?_,?_,?_,aD,?_⟩
     ·intro b hb'
      rcases List.mem_append.mp hb' with z | z
      ·exact hdN b z
      ·rw [List.mem_singleton.mp z]; exact hrN
     ·refine Holds.snoc (hd.mono fun j hj e=>?_) (keepD _ _ _ hr7 nrD)
      refine keepD _ _ _ (st7 _ _ e) (hdD _ ?_)
      rw [List.getD_eq_getElem?_getD,List.getElem?_eq_getElem (by rw [hd.1]; exact hj)]; exact List.getElem_mem _
     ·intro b o e
      exact keepD _ _ _ (st7 _ _ (sm6 _ _ e)) (aJ e hD3')
     ·intro b hb'
      rcases List.mem_append.mp hb' with z | z
      ·exact hdD b z
      ·rw [List.mem_singleton.mp z]; exact nrD
    ·rintro ys σ H6 ⟨_,ds,rfl,hdN,hd,sm6,hD6,hdD⟩
     have e6p:=sm6 _ _ g3p
     refine ⟨_,rfl,p,C,dx,_,rfl,e6p,T.cl,T.nD,by have h1:=dC "tie_list" (V.ref tl) (putF "house_count" (V.int n) []); have h2:=dC "house_count" (V.int n) []; have h3:=dC "out_lists" (V.ref D2) (putF "tie_list" (V.ref tl) (putF "house_count" (V.int n) [])); simp at h2; omega,?_⟩
     have q4 : ∀ b o u,H6 b = some o→b ≠ p→(upd H6 p u) b = some o:=fun b o u e h1=>by rw [aH h1]; exact e
     refine ⟨_,rfl,p,C,dx,_,_,rfl,aD,T.cl,T.nD,by rw [bC,if_pos rfl],D3,ds,n,fun s=>NV ((List.range n).map (far (zp zs) s)),rfl,q4 _ _ _ hD6 (cU hD6 e6p (by intro z; cases z)),n2,hd.mono fun j hj e=>q4 _ _ _ e (cU e e6p (by intro z; cases z)),fun j hj x hx=>?_,fun H8 s8=>?_⟩
     ·obtain ⟨y,hy,rfl⟩:=List.mem_map.mp hx
      exact ⟨_,rfl⟩
     ·have up : ∀ b o,G3 b = some o→b ≠ p→H8 b = some o:=fun b o e h1=>s8 _ _ (q4 _ _ _ (sm6 _ _ e) h1)
      have hD3N : H D3 = none:=d3.free (hV g3p) tb3 hD3'
      have upT : ∀ b o,G2 b = some o→b ≠ p→b ≠ Pt→H8 b = some o:=fun b o e h1 h2=>up _ _ (q3 _ _ (sm4 _ _ e h2) h1) h1
      refine k H8 ⟨fi,dx,tl,D2,D3,s8 _ _ aD,hD2N,hD3N,⟨bs,up _ _ g3D (cU g3D g3p (by intro z; cases z)),hbN,hb3.mono fun j hj e=>up _ _ e (cU e g3p (by intro z; cases z))⟩,
       ⟨ds,s8 _ _ (q4 _ _ _ hD6 (cU hD6 e6p (by intro z; cases z))),hdN,hd.mono fun j hj e=>s8 _ _ (q4 _ _ _ e (cU e e6p (by intro z; cases z)))⟩,
       ⟨htlN,zs3,upT _ _ g2t nptl.symm (tb2.not g2t (by intro ps z; cases z)),fun z hz=>upT _ _ (g2o z hz) (cU (g2o z hz) g2p (by intro z; cases z)) (tb2.not (g2o z hz) (by intro ps z; cases z)),fr3,((show (zp zs3).Perm (zp zs2) from pm.map _).trans (List.Perm.of_eq ez)),ord⟩⟩ ?_ fun b o e h1 h2=>up _ _ (d3 _ _ e h1 h2) h1
      exact tb3.mono up g3p
end
end K12
namespace K12
open PySem L2 NetM
noncomputable def aES (n : Nat) (ts : Ts) (i j : Nat) : List Nat:=(outN n ts i).filter fun o=>decide (far ts o j < far ts i j)
theorem nbG : (["other", "self", "home", "own"] : List Str).Nodup:=by decide +kernel
theorem dW {xs : List Nat} {x : Nat} : NV xs ++ [.int (x : Int)] = NV (xs ++ [x]):=by unfold NV; rw [List.map_append]; rfl
theorem eR {xs : List Nat} {i : Nat} {x : V} (h : (NV xs)[i]? = some x) : ∃ y,xs[i]? = some y∧x = .int (y : Int):=by
 unfold NV at h
 rw [List.getElem?_map] at h
 cases e : xs[i]? with
 | none=>rw [e] at h; cases h
 | some z=>rw [e] at h; exact ⟨z,rfl,(Option.some.inj h).symm⟩
theorem aCp {xs : List Nat} : NV xs = IV (xs.map fun (x : Nat)=>(x : Int)):=by unfold NV IV; rw [List.map_map]; rfl
section
variable {P : Program} {w : World} {K : W.Frag} {mg : Str→Option Value} {base : Heap}
theorem aEd : aM ["self"] ["self"] (aG yR):=⟨rfl,rfl,rfl,by decide +kernel,rfl,by decide +kernel,by decide +kernel⟩
def lH (n : Nat) (ts : Ts) (M : Nat) : Prop:=(∃ i j,i < n∧j < n∧M = far ts i j)∧∀ i j,i < n→j < n→far ts i j ≤ M
def uC (C : Addr) : Sp:=fun vs H Q _=>∃ (L : Addr→Prop) (p : Addr) (n : Nat) (ts : Ts),vs = [.ref p]∧cD C H L p n ts∧∀ (M : Nat) (H' : Hp),Same H H'→lH n ts M→Q (.int M) H'
theorem aDf {f C : Addr} {fd : FuncData} (F : Fun K "span" "Net.span" yR f fd) (T : NT K mg C) (B : Bl mg) : FnOk P w K mg base CX0 1 f fd ["self"] (uC C):=by
 refine F.ok aEd (fun vs H Q E h=>?_) (fun cdv A outer s H vs Q E hr h=>?_)
 ·obtain ⟨L,p,n,ts,rfl,_⟩:=h
  rfl
 ·obtain ⟨L,p,n,ts,rfl,N,k⟩:=h
  obtain ⟨dx,tl,ol,ds,h1,_,_,_,R,_⟩:=N.ob
  have n1:=N.fine.n1
  have n2:=N.fine.n2
  obtain ⟨bs,r1,r2,r3⟩:=R
  refine' ⟨_,aI (aU (aO (iP rfl) (by rfl) B.max PyProof.Rows.boot_max (aA ?c aB))),?_⟩
  case c =>
   refine' cC (g:=bE 0) (te:=tCB (yN K) (aY (tVar 0) tNil)) (NB:=["row"]) (src:=[none]) (bU (by kernel_rfl)) rfl (bX (dN (pv 0) rfl)) ?g ?t ?e
   case g=>exact fun cl C s₃ H₃ fp=>aL (i:=0) aCo rfl (Or.inl rfl) (Or.inr rfl)
   case t=>exact fun cl C s₃ H₃ fp=>cF
   case e=>exact fun cl C s₃ H₃ fp=>aO (iP rfl) (by rfl) B.max PyProof.Rows.boot_max (aA (pv 0) aB)
  refine ⟨_,rfl,p,C,dx,_,_,rfl,h1,T.cl,T.nD,pX _ _ _ _,ds,rfl,⟨_,SqL.of r1⟩,fun D hD=>?_⟩
  have nl : ds ≠ D:=aJ r1 hD
  refine cQ (xs:=bs.map V.ref) (fun i ys σ H2=>(∃ a,σ = [a])∧∃ ms : List Nat,ys = NV ms∧ms.length = i∧(∀ k (hk : k < ms.length),(∃ j,j < n∧ms[k] = far ts k j)∧∀ j,j < n→far ts k j ≤ ms[k])∧H2 = upd H D (.lst ys)) ⟨⟨_,rfl⟩,[],rfl,rfl,fun k hk=>absurd hk (by simp),rfl⟩ (fun i ys σ H2 _ ⟨_,_,_,_,_,e⟩=>by rw [e]; exact SqL.of (by rw [aH nl]; exact r1)) ?_ ?_
  ·rintro i x ys σ H2 Kt Kf hx ⟨⟨a,rfl⟩,ms,rfl,hml,hm,rfl⟩ kt kf
   obtain ⟨hi,rfl⟩:=rY hx
   rw [r3.1] at hi
   have hrow:=r3.2 i hi
   have nb : bs.getD i 0 ≠ D:=aJ hrow hD
   have eRow : NV ((List.range n).map (far ts i)) = IV ((List.range n).map (fun x=>((far ts i x : Nat) : Int))):=by unfold NV IV; rw [List.map_map,List.map_map]; rfl
   refine ⟨_,rfl,_,(List.range n).map (fun x=>((far ts i x : Nat) : Int)),rfl,SqL.of (by rw [aH nb]; exact hrow.trans (congrArg (fun l=>some (HO.lst l)) eRow)),?_,fun M hM1 hM2=>?_⟩
   ·intro z
    have:=congrArg List.length z
    rw [List.length_map,List.length_range,List.length_nil] at this
    omega
   ·obtain ⟨j,hj,rfl⟩:=List.mem_map.mp hM1
    have hj':=List.mem_range.mp hj
    refine kt _ _ _ aD (by rw [aN,hml]; exact Nat.lt_of_lt_of_le hi (Nat.le_trans n2 (by decide))) ⟨⟨_,rfl⟩,ms ++ [far ts i j],dW,by rw [List.length_append,hml]; rfl,fun k hk=>?_,by rw [fL]⟩
    by_cases hk' : k < ms.length
    ·rw [List.getElem_append_left hk']; exact hm k hk'
    ·have : k = ms.length:=by rw [List.length_append] at hk; simp at hk; omega
     subst this
     rw [List.getElem_append_right (Nat.le_refl _)]
     simp only [Nat.sub_self,List.getElem_cons_zero]
     rw [hml]
     refine ⟨⟨j,hj',rfl⟩,fun j2 hj2=>?_⟩
     have:=hM2 _ (List.mem_map.mpr ⟨j2,List.mem_range.mpr hj2,rfl⟩)
     omega
  ·rintro ys σ H2 ⟨_,ms,rfl,hml,hm,rfl⟩
   rw [List.length_map,r3.1] at hml
   refine ⟨D,ms.map (fun (x : Nat)=>(x : Int)),rfl,SqL.of (by rw [aD,aCp]),?_,fun M hM1 hM2=>?_⟩
   ·intro z
    have:=congrArg List.length z
    rw [List.length_map,List.length_nil] at this
    omega
   ·obtain ⟨m,hmm,rfl⟩:=List.mem_map.mp hM1
    obtain ⟨k',hk',rfl⟩:=List.mem_iff_getElem.mp hmm
    refine k _ _ (aF hD) ⟨?_,fun i j hi hj=>?_⟩
    ·obtain ⟨⟨j,hj,e⟩,_⟩:=hm k' hk'
     exact ⟨k',j,by omega,hj,e⟩
    ·have h1:=(hm i (by omega)).2 j hj
     have h2:=hM2 _ (List.mem_map.mpr ⟨_,List.getElem_mem (show i < ms.length by omega),rfl⟩)
     omega
theorem aAV : aM ["self", "house", "home", "own"] ["self", "house", "home"] (aG yS):=⟨rfl,rfl,rfl,by decide +kernel,rfl,by decide +kernel,by decide +kernel⟩
def uD (K : W.Frag) (C CE : Addr) : Sp:=fun vs H Q E=>∃ (L : Addr→Prop) (p : Addr) (n : Nat) (ts : Ts) (x : V) (o : Option Int) (y : V) (o' : Option Int),vs = [.ref p,x,y]∧cD C H L p n ts∧Wh K H x o∧Wh K H y o'∧(aT o 0 ((n : Int) - 1) = false∨aT o' 0 ((n : Int) - 1) = false→E (.ref CE) none H) ∧
 ∀ i j : Nat,i < n→j < n→o = some (i : Int)→o' = some (j : Int)→∀ r H',Same H H'→H r = none→H' r = some (.lst (NV (aES n ts i j)))→Q (.ref r) H'
theorem aDg {f C CE : Addr} {fd : FuncData} (F : Fun K "good" "Net.good" yS f fd) (T : NT K mg C) (M : MCal P w K mg base (CXf P w) 5 C "far" ["self", "one", "other"] (rW K C CE)) :
  FnOk P w K mg base (CXf P w) 6 f fd ["self", "house", "home"] (uD K C CE):=by
 obtain ⟨fM,fdM,mM,bM,GM⟩:=M.ex
 refine F.okX aAV (fun vs H Q E h=>?_) (fun cdv A outer s H vs Q E hr h=>?_)
 ·obtain ⟨L,p,n,ts,x,o,y,o',rfl,_⟩:=h
  rfl
 ·obtain ⟨L,p,n,ts,x,o,y,o',rfl,N,wh,wh',k1,k2⟩:=h
  obtain ⟨dx,tl,ol,ds,h1,_,_,RO,R,_⟩:=N.ob
  have fi:=N.fine
  have n2:=fi.n2
  refine' ⟨_,aE (aS (i:=3) aAV.nd rfl (Or.inr rfl) (fN (pv 0) T.cl mM GM hr bM .nil (oG (E':=E) fun _ _ _ z=>z) (aA (pv 1) (aA (pv 2) aB))))
   (aI (aU ?c)),?_⟩
  case c =>
   refine' cC (g:=bE 0) (tt:=nX (tOp (rI0 fun i j=>.bl (decide (i < j))) (tOp (rIxL K) (tOp (rIxL K) (tFld K (tVar 1) "distances") (tVar 0)) (tVar 2)) (tVar 3))) (te:=tVar 0) (NB:=["other", "self", "home", "own"]) (src:=[none,some 0,some 2,some 3]) (bU (by kernel_rfl)) rfl (bX (bL aX (dN (pv 0) rfl) (pv 1) (fun _ _=>rfl))) ?g ?t ?e
   case g=>exact fun cl C s₃ H₃ fp=>aL (i:=0) nbG rfl (Or.inl rfl) (Or.inr rfl)
   case t=>exact fun cl C s₃ H₃ fp=>hJ (bA nV (bL aX (bL aX (dN (pv 1) rfl) (pv 0) (fun _ _=>rfl)) (pv 2) (fun _ _=>rfl)) (pv 3) (bB _))
   case e=>exact fun cl C s₃ H₃ fp=>pv 0
  refine ⟨_,rfl,p,dx,_,rfl,h1,nfar _ _ _ _,_,rfl,_,rfl,L,p,n,ts,x,o,y,o',rfl,N,wh,wh',k1,fun i j hi hj ei ej=>?_⟩
  subst ei; subst ej
  obtain rfl:=jI wh
  obtain rfl:=jI wh'
  obtain ⟨bs,b,r1,r2,r3,_⟩:=RO.row hi
  refine ⟨_,rfl,p,C,dx,_,_,rfl,h1,T.cl,T.nO,wW _ _ _ _,_,rfl,ol,_,_,_,rfl,rfl,SqL.of r1,aW r2,b,rfl,⟨_,SqL.of r3⟩,fun D hD=>?_⟩
  have nb : b ≠ D:=aJ r3 hD
  refine cQ (xs:=NV (outN n ts i)) (fun m ys σ H2=>(∃ a,σ = [a,some (.ref p),some (.int (j : Int)),some (.int ((far ts i j : Nat) : Int))])∧ys = NV (((outN n ts i).take m).filter fun o=>decide (far ts o j < far ts i j))∧H2 = upd H D (.lst ys)) ⟨⟨_,rfl⟩,by simp,rfl⟩ (fun m ys σ H2 _ ⟨_,_,e⟩=>by rw [e]; exact SqL.of (by rw [aH nb]; exact r3)) ?_ ?_
  ·rintro m x ys σ H2 Kt Kf hx ⟨⟨a,rfl⟩,ey,rfl⟩ kt kf
   obtain ⟨v,hv,rfl⟩:=eR hx
   have hvm : v∈outN n ts i:=List.mem_of_getElem? hv
   have hvn : v < n:=pP fi hi hvm
   have sm : Same H (upd H D (.lst ys)):=aF hD
   obtain ⟨bs2,b2,q1,q2,q3,_⟩:=R.row hvn
   have hg : (NV ((List.range n).map (far ts v)))[j]? = some (.int (far ts v j : Nat)):=by
    rw [List.getElem?_map,List.getElem?_map,List.getElem?_range hj]; rfl
   have tk : (outN n ts i).take (m + 1) = (outN n ts i).take m ++ [v]:=by rw [List.take_add_one,hv]; rfl
   have hm : m < (outN n ts i).length:=(List.getElem?_eq_some_iff.mp hv).1
   refine ⟨_,rfl,p,C,dx,_,_,rfl,sm _ _ h1,T.cl,T.nD,pX _ _ _ _,_,rfl,ds,_,_,_,rfl,rfl,SqL.of (sm _ _ q1),aW q2,_,rfl,b2,_,_,_,rfl,rfl,SqL.of (sm _ _ q3),aW hg,_,rfl,_,_,rfl,rfl,_,rfl,?_⟩
   refine ite2 (fun e=>?_) (fun e=>?_)
   ·refine ⟨_,rfl,kt _ _ _ aD ?_ ⟨⟨_,rfl⟩,?_,by rw [fL]⟩⟩
    ·rw [ey,aN]
     refine Nat.lt_of_le_of_lt (List.length_filter_le _ _) (Nat.lt_of_le_of_lt (List.length_take_le _ _) (Nat.lt_of_lt_of_le (show m < 33 from ?_) (by decide)))
     have : (outN n ts i).length ≤ n:=Nat.le_trans (List.length_filter_le _ _) (by simp)
     omega
    ·have : decide (far ts v j < far ts i j) = true:=by simp at e ⊢; omega
     rw [ey,tk,List.filter_append,dW]
     simp [List.filter_cons,this]
   ·refine kf _ _ ⟨⟨_,rfl⟩,?_,rfl⟩
    have : decide (far ts v j < far ts i j) = false:=by simp at e ⊢; omega
    rw [ey,tk,List.filter_append]
    simp [List.filter_cons,this]
  ·rintro ys σ H2 ⟨_,ey,rfl⟩
   rw [aN,List.take_length] at ey
   refine k2 i j hi hj rfl rfl D _ (aF hD) hD ?_
   rw [aD,ey]
   rfl
end
end K12
namespace L2
open PySem PySem.Spec PyProof.Rows
section
variable {X : Cx}
def EqD (X : Cx) (H : Hp) (d : Nat) (x y : V) : Prop:=∀ (pins : List (Addr × Obj)) (s : Shared) (σ : St) (A : Around) (u v : Value),Inv X pins σ H s→A.units + d < cLine→RelV x u→RelV y v→SeqAt.EqAt A s u v true
theorem qA {H : Hp} {i : Int} : EqD X H 0 (.int i) (.int i):=by
 intro pins s σ A u v I hu rx ry
 have h:=sP (A:=A) (s:=s) rx ry rfl rfl
 rw [show eqV (.int i) (.int i) = true by show decide (i = i) = true; simp] at h
 exact h
theorem lI {pins : List (Addr × Obj)} {s : Shared} {σ : St} {H : Hp} {A : Around} {d : Nat} {xs ys : List V} {us vs : List Value} (I : Inv X pins σ H s) (hu : A.units + d < cLine) (rx : Vals xs us) (ry : Vals ys vs)
  (he : ∀ i,i < xs.length→i < ys.length→EqD X H d (xs.getD i .non) (ys.getD i .non)) : ∀ j (h1 : j < us.toArray.size) (h2 : j < vs.toArray.size),SeqAt.EqAt A s us.toArray[j] vs.toArray[j] true:=by
 intro j h1 h2
 have j1 : j < xs.length:=by rw [rx.length]; simpa using h1
 have j2 : j < ys.length:=by rw [ry.length]; simpa using h2
 have e1 : xs[j]? = some (xs.getD j .non):=by rw [List.getD_eq_getElem?_getD,List.getElem?_eq_getElem j1]; rfl
 have e2 : ys[j]? = some (ys.getD j .non):=by rw [List.getD_eq_getElem?_getD,List.getElem?_eq_getElem j2]; rfl
 obtain ⟨u,hu1,ru⟩:=rx.get e1
 obtain ⟨v,hv1,rv⟩:=ry.get e2
 have eu : us.toArray[j] = u:=by
  have : us[j]? = some us.toArray[j]:=by simp at h1 ⊢
  rw [hu1] at this; exact (Option.some.inj this).symm
 have ev : vs.toArray[j] = v:=by
  have : vs[j]? = some vs.toArray[j]:=by simp at h2 ⊢
  rw [hv1] at this; exact (Option.some.inj this).symm
 rw [eu,ev]
 exact he j j1 j2 pins s σ A u v I hu ru rv
theorem nF {n : Nat} : (List.range n).all (fun _=>true) = true:=List.all_eq_true.mpr fun _ _=>rfl
theorem aBW {H : Hp} {d : Nat} {a b : Addr} {xs ys : List V} (ha : SqL X.K H a xs) (hb : SqL X.K H b ys) (hl : xs.length = ys.length) (he : ∀ i,i < xs.length→i < ys.length→EqD X H d (xs.getD i .non) (ys.getD i .non)) : EqD X H (d + 1) (.ref a) (.ref b):=by
 intro pins s σ A u v I hu rx ry
 obtain rfl : u = Value.ref a:=rx
 obtain rfl : v = Value.ref b:=ry
 by_cases hab : a = b
 ·subst hab; exact SeqAt.EqAt.same _
 obtain ⟨us,r1,p1,_⟩:=I.list ha
 obtain ⟨vs,r2,p2,_⟩:=I.list hb
 refine SeqAt.EqAt.of_refs hab ?_
 have h:=SeqAt.RcAt.lists (A:=A) (s:=s) (e:=fun _=>true) p1.isList p2.isList (by simp only [List.size_toArray]; rw [← r1.length,← r2.length]; exact hl) (by omega) (lI I (by show A.units + 1 + d < cLine; omega) r1 r2 he)
 rw [nF] at h
 exact h
theorem aDh {H : Hp} {d : Nat} {a b : Addr} {xs ys : List V} (ha : SqT X.K H a xs) (hb : SqT X.K H b ys) (hl : xs.length = ys.length) (he : ∀ i,i < xs.length→i < ys.length→EqD X H d (xs.getD i .non) (ys.getD i .non)) : EqD X H (d + 1) (.ref a) (.ref b):=by
 intro pins s σ A u v I hu rx ry
 obtain rfl : u = Value.ref a:=rx
 obtain rfl : v = Value.ref b:=ry
 by_cases hab : a = b
 ·subst hab; exact SeqAt.EqAt.same _
 obtain ⟨us,r1,p1,_⟩:=I.tuple ha
 obtain ⟨vs,r2,p2,_⟩:=I.tuple hb
 refine SeqAt.EqAt.of_refs hab ?_
 have h:=SeqAt.RcAt.tuples (A:=A) (s:=s) (l:=a) (b:=b) (e:=fun _=>true) (show s.heap.IsTuple a us.toArray from p1) (show s.heap.IsTuple b vs.toArray from p2) (by omega) (lI I (by show A.units + 1 + d < cLine; omega) r1 r2 he)
 rw [nF] at h
 have e : (us.toArray.size == vs.toArray.size) = true:=by simp only [List.size_toArray]; rw [← r1.length,← r2.length,hl]; simp
 rw [e] at h
 exact h
def aET (X : Cx) (neg : Bool) (d : Nat) : R2:=fun x y H Q=>∃ p q xs ys,x = .ref p∧y = .ref q∧SqL X.K H p xs∧SqL X.K H q ys∧xs.length = ys.length∧(∀ i,i < xs.length→i < ys.length→EqD X H d (xs.getD i .non) (ys.getD i .non))∧Q (.bl (!neg)) H
theorem qB {d : Nat} (hu : X.A.units + (d + 1) < cLine) : OpR X (compareOp .NotEq) (aET X true d):=by
 intro pins s σ H x y v u Q I rx ry h
 obtain ⟨p,q,xs,ys,rfl,rfl,hp,hq,hl,he,k⟩:=h
 obtain rfl : v = Value.ref p:=rx
 obtain rfl : u = Value.ref q:=ry
 obtain ⟨us,r1,p1,_⟩:=I.list hp
 obtain ⟨vs,r2,p2,_⟩:=I.list hq
 refine SeqAt.RcNeAt.lists (e:=fun _=>true) p1.isList p2.isList (by simp only [List.size_toArray]; rw [← r1.length,← r2.length]; exact hl) (by omega) (lI I (by show X.A.units + 1 + d < cLine; omega) r1 r2 he) _ _ _ _ ⟨.bl _,H,I,rfl,?_⟩
 rw [nF]
 exact k
end
end L2
namespace K12
open PySem L2 NetM
abbrev sTwo : Stmt:=eF (top 24) 7
theorem aCq : (["one", "other", "self"] : List Str).Nodup:=by decide +kernel
section
variable {P : Program} {w : World} {K : W.Frag} {mg : Str→Option Value} {base : Heap}
theorem aEe : aM ["self"] ["self"] (aG yP):=⟨rfl,rfl,rfl,by decide +kernel,rfl,by decide +kernel,by decide +kernel⟩
def uE (C : Addr) : Sp:=fun vs H Q _=>∃ (L : Addr→Prop) (p : Addr) (n : Nat) (ts : Ts),vs = [.ref p]∧cD C H L p n ts∧Q (.int n) H
theorem aDi {f C : Addr} {fd : FuncData} (F : Fun K "many" "Net.many" yP f fd) (T : NT K mg C) : FnOk P w K mg base CX0 1 f fd ["self"] (uE C):=by
 refine F.ok aEe (fun vs H Q E h=>?_) (fun cdv A outer s H vs Q E hr h=>?_)
 ·obtain ⟨L,p,n,ts,rfl,_⟩:=h
  rfl
 ·obtain ⟨L,p,n,ts,rfl,N,k⟩:=h
  obtain ⟨dx,tl,ol,ds,h1,_⟩:=N.ob
  refine ⟨_,aI (aU (dN (pv 0) rfl)),?_⟩
  exact ⟨_,rfl,p,C,dx,_,_,rfl,h1,T.cl,T.nH,wV _ _ _ _,k⟩
theorem aEf : aM ["self"] ["self"] (aG yQ):=⟨rfl,rfl,rfl,by decide +kernel,rfl,by decide +kernel,by decide +kernel⟩
def oX (C : Addr) : Sp:=fun vs H Q _=>∃ (L : Addr→Prop) (p : Addr) (n : Nat) (ts : Ts),vs = [.ref p]∧cD C H L p n ts∧∀ (r : Addr) (zs : Zs) (H' : Hp),Same H H'→H r = none→H' r = some (.lst (zr zs))→PO H zs→(zp zs).Perm ts→Ord (zp zs)→Q (.ref r) H'
theorem aDj {f C : Addr} {fd : FuncData} (F : Fun K "ties" "Net.ties" yQ f fd) (T : NT K mg C) (B : Bl mg) : FnOk P w K mg base CX0 1 f fd ["self"] (oX C):=by
 refine F.ok aEf (fun vs H Q E h=>?_) (fun cdv A outer s H vs Q E hr h=>?_)
 ·obtain ⟨L,p,n,ts,rfl,_⟩:=h
  rfl
 ·obtain ⟨L,p,n,ts,rfl,N,k⟩:=h
  obtain ⟨dx,tl,ol,ds,h1,_,_,_,_,_,zs,z1,z2,_,z3,z4⟩:=N.ob
  refine ⟨_,aI (aU (dH iC (by rfl) B.lst PyProof.Rows.boot_list (aA (dN (pv 0) rfl) aB))),?_⟩
  exact ⟨_,rfl,p,C,dx,_,_,rfl,h1,T.cl,T.nT,pW _ _ _ _,tl,_,rfl,.inl (SqL.of z1),fun l hl=>k l zs _ (aF hl) hl aD z2 z3 z4⟩
theorem aEU : aM ["self"] ["self"] (aG sTwo):=⟨rfl,rfl,rfl,by decide +kernel,rfl,by decide +kernel,by decide +kernel⟩
def yX (C : Addr) : Sp:=fun vs H Q _=>∃ (L : Addr→Prop) (p : Addr) (n : Nat) (ts : Ts),vs = [.ref p]∧cD C H L p n ts∧∀ (b : Bool) (H' : Hp),Same H H'→(b = true↔∀ u∈ts,swp u∈ts)→Q (.bl b) H'
theorem aEg {f C : Addr} {fd : FuncData} (F : Fun K "is_two_way" "Net.is_two_way" sTwo f fd) (T : NT K mg C) (B : Bl mg) : FnOk P w K mg base CX0 1 f fd ["self"] (yX C):=by
 refine F.ok aEU (fun vs H Q E h=>?_) (fun cdv A outer s H vs Q E hr h=>?_)
 ·obtain ⟨L,p,n,ts,rfl,_⟩:=h
  rfl
 ·obtain ⟨L,p,n,ts,rfl,N,k⟩:=h
  obtain ⟨dx,tl,ol,ds,h1,_,_,_,_,_,zs,z1,z2,_,z3,z4⟩:=N.ob
  have hu : (A.deeper (PyProof.Rows.envOfC "Net.is_two_way" (aG sTwo) s.heap.objs.size f cdv)).units + 2 < cLine:=by have:=hr.un; omega
  refine' ⟨_,aI (aU (aO (rD rfl) (by rfl) B.all PyProof.Rows.boot_all (aA ?c aB))),?_⟩
  case c =>
   refine' cC (g:=gTup K 2 (eE (bE 0) (eE (bE 1) gNil))) (te:=tOp (rInP K false) (tTup (aY (tVar 1) (aY (tVar 0) tNil))) (tFld K (tVar 2) "tie_list")) (NB:=["one", "other", "self"]) (src:=[none,none,some 0]) (bU (by kernel_rfl)) rfl (bX (dN (pv 0) rfl)) ?g ?t ?e
   case g=>exact fun cl C s₃ H₃ fp=>eL (n:=2) rfl (bQ (aL (i:=0) aCq rfl (Or.inl rfl) (Or.inr rfl)) (bQ (aL (i:=1) aCq rfl (Or.inl rfl) (Or.inr rfl)) dS))
   case t=>exact fun cl C s₃ H₃ fp=>cF
   case e=>exact fun cl C s₃ H₃ fp=>hG (aD1 hu) (cW (aA (pv 1) (aA (pv 0) aB))) (dN (pv 2) rfl) rfl
  have hz : zs.length ≤ 256:=by have:=z3.length_eq; rw [bK] at this; have:=N.fine.len; omega
  refine ⟨_,rfl,p,C,dx,_,_,rfl,h1,T.cl,T.nT,pW _ _ _ _,tl,rfl,⟨_,SqL.of z1⟩,fun D hD=>?_⟩
  refine cQ (xs:=zr zs) (fun i ys σ H2=>(∃ a b,σ = [a,b,some (.ref p)])∧Same H H2∧H2 D = some (.lst ys)∧ys = (((zp zs).take i).map fun u=>decide (swp u∈zp zs)).map V.bl) ⟨⟨_,_,rfl⟩,aF hD,aD,rfl⟩ (fun i ys σ H2 _ z=>SqL.of (z.2.1 _ _ z1)) ?_ ?_
  ·rintro i x ys σ H2 Kt Kf hx ⟨⟨a,b,rfl⟩,sm,hD2,rfl⟩ kt kf
   obtain ⟨z,hz',rfl⟩:=jH hx
   have hi : i < zs.length:=(List.getElem?_eq_some_iff.mp hz').1
   have ha:=sm _ _ (z2 z (List.mem_of_getElem? hz'))
   refine ⟨_,_,rfl,SqT.of ha,rfl,_,_,rfl,_,_,rfl,rfl,?_⟩
   refine ⟨_,rfl,_,rfl,by show 2 ≤ sizeLine; decide,fun t ht=>?_⟩
   have st:=aF (o:=.tup [.int z.2.2,.int z.2.1]) ht
   refine ⟨_,rfl,p,C,dx,_,_,rfl,st _ _ (sm _ _ h1),T.cl,T.nT,pW _ _ _ _,aD5 (u:=swp z.2) aD (st _ _ (sm _ _ z1)) ((z2.same sm).same st) ?_⟩
   rw [if_neg Bool.false_ne_true]
   refine kt _ _ _ (st _ _ hD2) (by rw [List.length_map,List.length_map]; refine Nat.lt_of_le_of_lt (List.length_take_le _ _) (Nat.lt_of_lt_of_le (show i < 257 by omega) (by decide))) ⟨⟨_,_,rfl⟩,bP (sm.trans st) hD,aD,?_⟩
   have e2 : (zp zs)[i]? = some z.2:=by unfold zp; rw [List.getElem?_map,hz']; rfl
   rw [List.take_add_one,e2,Option.toList_some,List.map_append,List.map_append]; rfl
  ·rintro ys σ H2 ⟨_,sm,hD2,rfl⟩
   rw [dB,← bK,List.take_length] at hD2
   refine ⟨D,_,rfl,SqL.of hD2,k _ _ sm ?_⟩
   rw [List.all_map,List.all_eq_true]
   constructor
   ·intro h u hu
    have:=h u (z3.mem_iff.mpr hu)
    exact z3.mem_iff.mp (of_decide_eq_true this)
   ·intro h u hu
    exact decide_eq_true (z3.mem_iff.mpr (h u (z3.mem_iff.mp hu)))
end
end K12
namespace L2
open PySem PySem.Spec PyProof.Rows
theorem wY {c it t : Addr} {h h' : Heap} {k : Nat} (r : h.IsListIter it t k) (sb : Heap.SameBut c h h') (n : it ≠ c) : h'.IsListIter it t k:=r.at fun o e=>oQ sb n e
def Itzl (K : W.Frag) (a b : Addr) : It :=
 ⟨fun i H=>∃ xs ys x y,SqL K H a xs∧SqL K H b ys∧xs[i]? = some x∧ys[i]? = some y,fun i H v H'=>∃ p x y,v = .ref p∧H p = none∧H' = upd H p (.tup [x,y])∧(∀ xs,SqL K H a xs→xs[i]? = some x)∧∀ ys,SqL K H b ys→ys[i]? = some y,fun i H=>∃ xs ys,SqL K H a xs∧SqL K H b ys∧xs.length ≤ i⟩
theorem aAW {P : Program} {w : World} {K : W.Frag} {es : List Expr} {x1 : Nat} {pos : Pos} (a b z ti tq i1 i2 : Addr) (dj : ZipApart z ti tq i1 i2 a b) :
  Turn P w K (.Tuple es x1 pos) (Itzl K a b) [z,ti,tq,i1,i2] z (fun i h=>IsZip h z ti tq .none∧IsPair h ti (.ref i1) (.ref i2)∧(∃ u v,IsPair h tq u v)∧h.IsListIter i1 a i∧h.IsListIter i2 b i) where
 mem:=by simp
 obj:=fun i h st c hc=>by
  obtain ⟨gz,gi,⟨u,v,gq⟩,⟨o1,q1,c1,d1⟩,⟨o2,q2,c2,d2⟩⟩:=st
  simp only [List.mem_cons,List.not_mem_nil,or_false] at hc
  rcases hc with rfl | rfl | rfl | rfl | rfl
  ·exact ⟨_,gz,fun v z=>by have z' : Data.fields _ = Data.cell v:=z; cases z'⟩
  ·exact ⟨_,gi,fun v z=>by have z' : Data.seq _ _ = Data.cell v:=z; cases z'⟩
  ·exact ⟨_,gq,fun v z=>by have z' : Data.seq _ _ = Data.cell v:=z; cases z'⟩
  ·exact ⟨o1,q1,fun v z=>by rw [d1] at z; cases z⟩
  ·exact ⟨o2,q2,fun v z=>by rw [d2] at z; cases z⟩
 keep:=fun i h h' st k=>by
  obtain ⟨gz,gi,⟨u,v,gq⟩,r1,r2⟩:=st
  exact ⟨k z (by simp) _ gz,k ti (by simp) _ gi,⟨u,v,k tq (by simp) _ gq⟩,r1.at fun o q=>k i1 (by simp) o q,r2.at fun o q=>k i2 (by simp) o q⟩
 item:=by
  intro X hP hw hK hc i pins s σ H E I hf st hg
  subst hP hw hK
  obtain ⟨xs,ys,x,y,hx,hy,ex,ey⟩:=hg
  obtain ⟨us,rx,px,_⟩:=I.list hx
  obtain ⟨vs,ry,py,_⟩:=I.list hy
  obtain ⟨u,hu,ru⟩:=rx.get ex
  obtain ⟨v,hv,rv⟩:=ry.get ey
  obtain ⟨gz,gi,⟨u0,v0,gq⟩,r1,r2⟩:=st
  refine wpAny_pyNext_zip_item dj gz gi gq r1 r2 px.isList py.isList (x:=u) (y:=v) (by simpa using hu) (by simpa using hv) fun h1 gz1 gq1 r11 r21 gp1 _ kp=>?_
  refine ⟨_,rfl,wpAny_letOwnedTupleGo_zip gz1 fun h2 gz2 sb2=>?_⟩
  have zl : z < s.heap.objs.size:=Heap.lt_size gz
  have nz : s.heap.objs.size ≠ z:=Nat.ne_of_gt zl
  have kp2 : ∀ c o,c ∉ [z,tq,i1,i2]→s.heap.get? c = some o→h2.get? c = some o:=fun c o hc e=>by
   simp only [List.mem_cons,List.not_mem_nil,or_false,not_or] at hc
   exact oQ sb2 hc.1 (kp c o hc.1 hc.2.1 hc.2.2.1 hc.2.2.2 e)
  have gi2 : IsPair h2 ti (.ref i1) (.ref i2):=kp2 _ _ (by simp only [List.mem_cons,List.not_mem_nil,or_false,not_or]; exact ⟨dj.TIz,dj.TITO,dj.TIi1,dj.TIi2⟩) gi
  have fe : ∀ e∈[z,tq,i1,i2],FpOk X pins H e:=fun e he=>hf e (by simp only [List.mem_cons,List.not_mem_nil,or_false] at he ⊢; rcases he with h | h | h | h <;> simp [h])
  have I2 : Inv X pins σ (upd H s.heap.objs.size (.tup [x,y])) { s with heap:=h2,toks:=s.toks } :=
   I.turnedT (its:=[u,v]) fe kp2 (Nat.le_refl _) (by show 2 ≤ sizeLine; decide) (.cons ru (.cons rv .nil)) (oQ sb2 nz gp1)
  refine ⟨.ref s.heap.objs.size,_,I2,rfl,⟨_,x,y,rfl,I.hok.fresh (Nat.le_refl _),rfl,fun zs hz=>by rw [I.list_inj hz hx]; exact ex,fun zs hz=>by rw [I.list_inj hz hy]; exact ey⟩,⟨gz2,gi2,⟨u,v,oQ sb2 dj.TOz gq1⟩,wY r11 sb2 dj.i1z,wY r21 sb2 dj.i2z⟩,fun c hc=>?_⟩
  have f0:=(hf c hc).1
  have cl : c < s.heap.objs.size:=by
   simp only [List.mem_cons,List.not_mem_nil,or_false] at hc
   rcases hc with rfl | rfl | rfl | rfl | rfl
   ·exact zl
   ·exact Heap.lt_size gi
   ·exact Heap.lt_size gq
   ·obtain ⟨o,q,_⟩:=r1; exact Heap.lt_size q
   ·obtain ⟨o,q,_⟩:=r2; exact Heap.lt_size q
  rw [aH (Nat.ne_of_lt cl)]; exact f0
 done:=by
  intro X hP hw hK hc i pins s σ H E I hf st hg
  subst hP hw hK
  obtain ⟨xs,ys,hx,hy,hi⟩:=hg
  obtain ⟨us,rx,px,_⟩:=I.list hx
  obtain ⟨vs,ry,py,_⟩:=I.list hy
  obtain ⟨gz,gi,⟨u0,v0,gq⟩,r1,r2⟩:=st
  have hl:=rx.length
  refine wpAny_pyNext_zip_end (I.ok.hd hc) dj gz gi gq r1 r2 px.isList py.isList (.inl (by simp; omega)) fun h' kp=>⟨rfl,?_⟩
  have fe : ∀ e∈[z,tq,i1,i2],FpOk X pins H e:=fun e he=>hf e (by simp only [List.mem_cons,List.not_mem_nil,or_false] at he ⊢; rcases he with h | h | h | h <;> simp [h])
  refine I.turnedL (t':=s.toks) fe fun c o hc e=>?_
  simp only [List.mem_cons,List.not_mem_nil,or_false,not_or] at hc
  exact kp c o hc.1 hc.2.1 hc.2.2.1 hc.2.2.2 e
 self:=fun _ _ _ _ _ st h=>wpAny_pyIter_zip st.1 h
section
variable {X : Cx}
def aEV (K : W.Frag) (ta : TA) : TI:=fun σ H R=>ta σ H fun vs H1=>∃ a b xs ys,vs = [.ref a,.ref b]∧SqL K H1 a xs∧SqL K H1 b ys∧xs.length = ys.length∧R (Itzl K a b) H1
theorem aDk {es : List Expr} {x1 : Nat} {tpos : Pos} {a b : Expr} {ta : TA} {p pos : Pos} (hg : Gl X "zip") (hm : X.mg "zip" = none) (ha : PA X [a,b] ta) (hs : starEach [a,b] X.env = [(false,eval a X.env),(false,eval b X.env)]:=by rfl) (hs2 : starEach [b] X.env = [(false,eval b X.env)]:=by rfl) :
  PI X (.Tuple es x1 tpos) (.Call (.Name "zip" p) [a,b] [] pos) (aEV X.K ta):=by
 intro pins s σ H R I h
 refine Call_ (iX I hg hm PyProof.Rows.boot_zip (PyProof.Rows.callWith_type1 (thn (ha pos pins s σ H _ I h) fun us s1 ⟨vs,H1,I1,r1,q1⟩=>?_) (by rw [hs,hs2]) (by rw [hs2]; rfl)))
 obtain ⟨l,m,xs,ys,rfl,hl,hm',hxy,q⟩:=q1
 obtain ⟨u1,u2,rfl,ru1,ru2⟩:=r1.two
 obtain rfl : u1 = Value.ref l:=ru1
 obtain rfl : u2 = Value.ref m:=ru2
 obtain ⟨its,rv,pt,_⟩:=I1.list hl
 obtain ⟨its2,rv2,pt2,_⟩:=I1.list hm'
 have hlt : l < s1.heap.objs.size:=by obtain ⟨o,e,_⟩:=pt.isList; exact Heap.lt_size e
 have hlt2 : m < s1.heap.objs.size:=by obtain ⟨o,e,_⟩:=pt2.isList; exact Heap.lt_size e
 refine call_zip_2 pt.isList pt2.isList fun h' gz gi gq r1 r2 _ k=>?_
 refine wpAny_pyIter_zip gz ?_
 have I2 : Inv X pins σ H1 { s1 with heap:=h' }:=I1.kept (t':=s1.toks) k
 refine ⟨s1.heap.objs.size + 4,[s1.heap.objs.size + 4,s1.heap.objs.size + 2,s1.heap.objs.size + 3,s1.heap.objs.size,s1.heap.objs.size + 1],_,_,H1,rfl,I2,aAW l m _ _ _ _ _ (zipApart_new hlt hlt2),⟨gz,gi,⟨_,_,gq⟩,r1,r2⟩,fun b hb=>?_,q⟩
 have hb' : s1.heap.objs.size ≤ b:=by
  simp only [List.mem_cons,List.not_mem_nil,or_false] at hb
  rcases hb with rfl | rfl | rfl | rfl | rfl
  ·exact Nat.le_add_right _ _
  ·exact Nat.le_add_right _ _
  ·exact Nat.le_add_right _ _
  ·exact Nat.le_refl _
  ·exact Nat.le_add_right _ _
 exact I1.fpOk hb' (I1.hok.fresh hb')
theorem aAX {K : W.Frag} {a b D : Addr} {xs ys : List V} {g : TG} {tt : TT} {te : TE} {fin : Hp→Prop} {σB : St} {H0 : Hp} (hxy : xs.length = ys.length) (Pv : Nat→List V→St→Hp→Prop) (h0 : Pv 0 [] σB H0)
  (hl : ∀ i zs σ H,i ≤ xs.length→Pv i zs σ H→SqL K H a xs∧SqL K H b ys)
  (hs : ∀ i x y p zs σ H (Kt : V→St→Hp→Prop) (Kf : St→Hp→Prop),xs[i]? = some x→ys[i]? = some y→Pv i zs σ H→H p = none →
   (∀ v σ2 H4,H4 D = some (.lst zs)→zs.length < sizeLine→Pv (i + 1) (zs ++ [v]) σ2 (upd H4 D (.lst (zs ++ [v])))→Kt v σ2 H4)→(∀ σ2 H3,Pv (i + 1) zs σ2 H3→Kf σ2 H3) →
   g (.ref p) σ (upd H p (.tup [x,y])) fun σ2 H2=>tt σ2 H2 fun b H3=>if b = true then te σ2 H3 fun v H4=>Kt v σ2 H4 else Kf σ2 H3)
  (hd : ∀ zs σ H,Pv xs.length zs σ H→fin H) : gC (Itzl K a b) g tt te D fin σB H0:=by
 refine ⟨fun i m σ H=>m = xs.length - i∧i ≤ xs.length∧∃ zs,Pv i zs σ H,⟨xs.length,by simp,Nat.zero_le _,[],h0⟩,?_⟩
 rintro i m σ H ⟨rfl,hi,zs,p⟩
 obtain ⟨q1,q2⟩:=hl i zs σ H hi p
 by_cases hlt : i < xs.length
 ·have hlt2 : i < ys.length:=by omega
  refine .inr ⟨⟨xs,ys,xs[i],ys[i],q1,q2,by simp [hlt],by simp [hlt2]⟩,?_⟩
  rintro v H' ⟨pp,x,y,rfl,hn,rfl,hv1,hv2⟩
  exact hs i x y pp zs σ _ (fun v σ2 H4=>∃ zs,H4 D = some (.lst zs)∧zs.length < sizeLine∧∃ m',m' < xs.length - i∧m' = xs.length - (i + 1)∧i + 1 ≤ xs.length∧∃ zs',Pv (i + 1) zs' σ2 (upd H4 D (.lst (zs ++ [v]))))
   (fun σ2 H3=>∃ m',m' < xs.length - i∧m' = xs.length - (i + 1)∧i + 1 ≤ xs.length∧∃ zs',Pv (i + 1) zs' σ2 H3) (hv1 xs q1) (hv2 ys q2) p hn
   (fun v σ2 H4 z1 z2 z3=>⟨zs,z1,z2,_,by omega,rfl,hlt,_,z3⟩) (fun σ2 H3 z=>⟨_,by omega,rfl,hlt,_,z⟩)
 ·have e : i = xs.length:=by omega
  subst e
  exact .inl ⟨⟨xs,ys,q1,q2,Nat.le_refl _⟩,hd zs σ H p⟩
end
end L2
namespace L2
open PySem PySem.Spec PyProof.Rows
theorem Inv.fromN {X : Cx} {pins : List (Addr × Obj)} {σ : St} {H : Hp} {s : Shared} {h' : Heap} {m : Str→Option Value} {t' : Nat} (I : Inv X pins σ H s) (F : Fr X.base X.env.locals s.heap m) (F' : Fr X.base X.env.locals h' m)
  (N' : News X.base X.env.locals h' (eV X.base s.heap X.env.locals)) : Inv X pins σ H { s with heap:=h',toks:=t' }:=by
 have keep : ∀ b u,b ≠ X.env.locals→s.heap.get? b = some u→h'.get? b = some u:=fun b u hb e=>by
  cases q : X.base.get? b with
  | some v =>
   have:=I.bk b v q
   rw [e] at this; cases this
   exact F'.keep b _ q
  | none=>exact (N' (b,u) (fZ hb q e)).1
 refine I.step (g':=s.gens) (d':=s.drawn) (ch:=[]) (fun _ z=>absurd z (by simp)) (fun b u hb _ _ e _=>keep b u hb e) (fun b u hb _ _ e _=>⟨u.slots,keep b u hb e⟩) (fun b u _ e n=>n) (fun b u _ e=>?_)
  (fun b xs e=>e) (fun b u v e=>e) (fun b ps e=>⟨#[],by rw [e]; simp⟩) (fun m1 hm=>by rw [vV hm F.ns]; exact F'.ns) (fun b u e=>?_) I.bare
 ·by_cases hb : b = X.env.locals
  ·obtain ⟨o',_,_,q,_⟩:=F'.ns
   exact ⟨o',by rw [hb]; exact q⟩
  ·exact ⟨u,keep b u hb e⟩
 ·refine (I.hok b u e).stay (fun c v hc q=>keep c v ?_ q) (fun c q=>q) fun c xs q=>q
  rintro rfl
  rcases hc with z | hc
  ·have f:=I.free; rw [z,e] at f; cases f
  ·rw [I.free] at hc; cases hc
def rSum (K : W.Frag) : List V→Hp→VK→Prop:=fun xs H Q=>∃ (l : Addr) (ns : List Int),xs = [.ref l]∧SqL K H l (ns.map V.int)∧Q (.int ns.sum) H
theorem aBX {X : Cx} (hc : X.calm = true) : cK X (.builtin "sum") (rSum X.K):=by
 intro pins s σ H xs us Q I r h
 obtain ⟨l,ns,rfl,hl,q⟩:=h
 obtain ⟨u1,rfl,r1⟩:=r.one
 obtain rfl : u1 = Value.ref l:=r1
 obtain ⟨its,rv,pl,_⟩:=I.list hl
 obtain ⟨m,F⟩:=I.fr
 refine LSm.sum_ints F sC (I.ok.hd hc) pl.isList (oC rv) fun h' tk t' F' N'=>?_
 exact ⟨.int _,H,I.fromN (t':=tk) F F' N',⟨_,rfl⟩,q⟩
end L2
namespace L2
open PySem PySem.Spec PyProof.Rows
theorem aAY {X : Cx} : PIp X .Mult (fun x y H Q=>∃ i j,x = .int i∧y = .int j∧CMul i j∧Q (.int (i * j)) H):=by
 intro pins s σ H x y v u Q I r1 r2 h
 obtain ⟨i,j,e1,e2,c,q⟩:=h
 subst e1; subst e2
 obtain ⟨t,rfl⟩:=r1
 obtain ⟨t',rfl⟩:=r2
 exact imul_int ⟨.int _,H,I.tok _,⟨_,rfl⟩,q⟩ c.ok
end L2
namespace K12
open PySem L2 NetM
abbrev yY : Stmt:=top 35
abbrev qC : Stmt:=top 36
abbrev qD : Stmt:=top 37
abbrev qE : Stmt:=top 38
abbrev yZ : Stmt:=top 39
def mD (ns : List Nat) : Nat:=ns.foldl (· * ·) 1
theorem zA {ns : List Nat} {x : Nat} : mD (ns ++ [x]) = mD ns * x:=by unfold mD; rw [List.foldl_append]; rfl
theorem aBY {ns : List Nat} : mD ns = pr ns:=by
 have go : ∀ (l : List Nat) (a : Nat),l.foldl (· * ·) a = a * pr l:=fun l=>by
  induction l with
  | nil=>intro a; exact (Nat.mul_one a).symm
  | cons x l ih=>intro a; rw [List.foldl_cons,ih]; show a * x * pr l = a * (x * pr l); rw [Nat.mul_assoc]
 unfold mD
 rw [go,Nat.one_mul]
theorem cI.weak {H : Hp} {L L' : Addr→Prop} {l : Addr} {n : Nat} {r : Nat→List Nat} (R : cI H L l n r) (h : ∀ a,L a→L' a) : cI H L' l n r:=let ⟨bs,a,b,c⟩:=R; ⟨bs,a,fun x hx=>h _ (b x hx),c⟩
theorem cD.weak {C : Addr} {H : Hp} {L L' : Addr→Prop} {p : Addr} {n : Nat} {ts : Ts} (N : cD C H L p n ts) (h : ∀ a,L a→L' a) : cD C H L' p n ts :=
 let ⟨dx,tl,ol,ds,a,l1,l2,b,c,d1,zs,d2,d3,d4,d5⟩:=N.ob
 ⟨N.fine,dx,tl,ol,ds,a,h _ l1,h _ l2,b.weak h,c.weak h,h _ d1,zs,d2,d3,fun z hz=>h _ (d4 z hz),d5⟩
def fK (H : Hp) (D : Addr) (ts : Ts) (H2 : Hp) : Prop:=Same H H2∧∃ zs : Zs,H2 D = some (.lst (zr zs))∧PO H2 zs∧zp zs = ts
theorem fK.add {H H2 : Hp} {D t : Addr} {ts : Ts} {u : Int × Int} {zs : Zs} (hD : H D = none) (sm : Same H H2) (h1 : H2 D = some (.lst (zr zs))) (po : PO H2 zs) (ez : zp zs = ts) (ht : H2 t = none) : fK H D (ts ++ [u]) (upd (upd H2 t (prT u)) D (.lst (zr zs ++ [.ref t]))):=by
 have nD : D ≠ t:=aJ h1 ht
 refine ⟨bP (sm.trans (aF ht)) hD,zs ++ [(t,u)],by rw [aD,rF]; rfl,?_,?_⟩
 ·refine PO.putL (xs:=zr zs) ?_ (by rw [aH nD]; exact h1)
  exact (po.putN ht).append (PO.one aD)
 ·rw [rG,ez]; rfl
section
variable {P : Program} {w : World} {K : W.Frag} {mg : Str→Option Value} {base : Heap}
abbrev NewN (C Pt : Addr) (H : Hp) (n : Nat) (ts : Ts) (Q : VK) : Prop:=∀ (p : Addr) (H' : Hp),H p = none→cD C H' (fun a=>H a = none) p n ts→Tab Pt H'→iQ Pt H H'→Q (.ref p) H'
theorem iL : aM ["many", "pairs", "ties", "pair", "one", "other"] ["many", "pairs"] (aG qC):=⟨rfl,rfl,rfl,by decide +kernel,rfl,by decide +kernel,by decide +kernel⟩
def nG (C Pt : Addr) : Sp:=fun vs H Q _=>∃ (n : Nat) (l : Addr) (zs : Zs),vs = [.int n,.ref l]∧H l = some (.lst (zr zs))∧PO H zs∧Fine n (dbl (zp zs))∧Tab Pt H∧NewN C Pt H n (dbl (zp zs)) Q
theorem aAZ {f C Pt fI : Addr} {fd fdI : FuncData} (F : Fun K "pairs_net" "pairs_net" qC f fd) (B : Bl mg) (T : NT K mg C) (M : Mk K C fI) (bI : dE K fdI ["self", "many", "ties"] []) (GI : FnOk P w K mg base CX0 7 fI fdI ["self", "many", "ties"] (uB C Pt)) (R : Cal P w K mg base CX0 1 "is_row" ["thing", "length"] (rS K)) :
  FnOk P w K mg base CX0 9 f fd ["many", "pairs"] (nG C Pt):=by
 refine F.ok iL (fun vs H Q E h=>?_) (fun cdv A outer s H vs Q E hr h=>?_)
 ·obtain ⟨n,l,zs,rfl,_⟩:=h
  rfl
 ·obtain ⟨n,l,zs,rfl,hl,po,fi,tb,k⟩:=h
  have h1 : Room 1 _:=hr.mono (by decide)
  refine ⟨_,aE (bR (cS (cP (aO dD (by rfl) B.isi PyProof.Rows.boot_isinstance (aA (pv 1) (aA (dR (v:=.ty "list") rfl B.lst PyProof.Rows.boot_list rfl) aB))))) bZ aZ)
   (aE (aS (i:=2) iL.nd rfl (Or.inl rfl) (cT aB))
   (aE (cJ PassesOwn.never rfl (bX (pv 1)) (aL (i:=3) iL.nd rfl (Or.inl rfl))
    (aE (bR (cS (cP (aQ R h1 aR (aA (pv 3) (aA aK aB))))) bZ aZ)
    (aE (iY (pv 3) (eL (n:=2) rfl (bQ (aL (i:=4) iL.nd rfl (Or.inl rfl)) (bQ (aL (i:=5) iL.nd rfl (Or.inl rfl)) dS))))
    (aE (cH (gB PySem.F.plainAttrs_list PySem.F.slot_list_append PySem.F.type_list_append dA (pv 2) (aA (cW (aA (pv 4) (aA (pv 5) aB))) aB)))
    (aI (cH (gB PySem.F.plainAttrs_list PySem.F.slot_list_append PySem.F.type_list_append dA (pv 2) (aA (cW (aA (pv 5) (aA (pv 4) aB))) aB))))))))
   (aI (aU (aCD M GI hr rfl T.mgC bI .nil aR (aA (pv 0) (aA (pv 2) aB))))))),?_⟩
  have hlen : 2 * zs.length ≤ 256:=by have:=fi.len; rw [pQ,bK] at this; exact this
  refine ⟨_,rfl,_,_,_,.type "list",true,rfl,⟨rfl,tZ⟩,.of (.lst hl),_,rfl,iteF ?_⟩
  refine ⟨by show 0 ≤ sizeLine; decide,fun D hD=>?_⟩
  refine ⟨_,rfl,l,rfl,⟨_,SqL.of (aF hD _ _ hl)⟩,eT (K:=K) (xs:=zr zs) (fun i σ H2=>(∃ x3 x4 x5,σ = [some (.int n),some (.ref l),some (.ref D),x3,x4,x5])∧fK H D (dbl ((zp zs).take i)) H2) ⟨⟨_,_,_,rfl⟩,aF hD,[],aD,PO.nil,rfl⟩ (fun i σ H2 _ z=>SqL.of (z.2.1 _ _ hl)) ?_ ?_⟩
  ·rintro i x σ H2 hx ⟨⟨x3,x4,x5,rfl⟩,sm2,ys,hy,po2,ey⟩
   obtain ⟨z,hz,rfl⟩:=jH hx
   have hi : i < zs.length:=(List.getElem?_eq_some_iff.mp hz).1
   have ha:=sm2 _ _ (po z (List.mem_of_getElem? hz))
   have ylen : ys.length ≤ 256:=by rw [← bK,ey,pQ,List.length_take,bK]; omega
   refine ⟨_,rfl,_,_,_,rfl,.tup ha,_,rfl,iteF ?_⟩
   refine ⟨_,rfl,_,_,rfl,SqT.of ha,rfl,_,_,rfl,_,_,rfl,rfl,?_⟩
   refine ⟨_,rfl,.inl ⟨rfl,_,SqL.of hy⟩,_,rfl,_,rfl,by show 2 ≤ sizeLine; decide,fun t ht=>?_⟩
   refine ⟨D,_,_,rfl,rfl,aF ht _ _ hy,by rw [dB]; exact Nat.lt_of_le_of_lt ylen (by decide),?_⟩
   obtain ⟨sm3,ys3,hy3,po3,ey3⟩:=fK.add (u:=z.2) hD sm2 hy po2 ey ht
   have ey3l : ys3.length = ys.length + 1:=by rw [← bK,ey3,← ey,List.length_append,bK]; rfl
   generalize upd (upd H2 t _) D _ = H3 at *
   refine ⟨_,rfl,.inl ⟨rfl,_,SqL.of hy3⟩,_,rfl,_,rfl,by show 2 ≤ sizeLine; decide,fun t2 ht2=>?_⟩
   refine ⟨D,_,_,rfl,rfl,aF ht2 _ _ hy3,by rw [dB,ey3l]; exact Nat.lt_of_le_of_lt (Nat.succ_le_succ ylen) (by decide),⟨_,_,_,rfl⟩,?_⟩
   have P4:=fK.add (u:=swp z.2) hD sm3 hy3 po3 ey3 ht2
   have e2 : (zp zs)[i]? = some z.2:=by unfold zp; rw [List.getElem?_map,hz]; rfl
   rw [List.take_add_one,e2,Option.toList_some,yO]
   rw [List.append_assoc] at P4
   exact P4
  ·rintro σ H2 ⟨⟨x3,x4,x5,rfl⟩,sm2,ys,hy,po2,ey⟩
   rw [dB,← bK,List.take_length] at ey
   refine ⟨_,rfl,_,rfl,fun px dx nx ndx nex=>?_⟩
   have sN : Same H2 (upd (upd H2 dx (.own px)) px (.ins C dx [])):=(aF (o:=.own px) ndx).trans (aF (D:=px) (o:=.ins C dx []) (by rw [aH nex.symm]; exact nx))
   have gpx : (upd (upd H2 dx (.own px)) px (.ins C dx [])) px = some (.ins C dx []):=aD
   have sM:=sm2.trans sN
   generalize upd (upd H2 dx (.own px)) px (.ins C dx []) = HM at *
   have TM : cX HM D n ys:=⟨by rw [ey]; exact fi,sN _ _ hy,po2.same sN⟩
   refine ⟨px,dx,n,D,ys,rfl,gpx,TM,tb.same sM,fun H7 N7 t7 s7=>⟨rfl,?_⟩⟩
   have npx : H px = none:=sm2.free nx
   rw [ey] at N7
   exact k px H7 npx (N7.weak fun a ha=>sM.free ha) t7 fun b o e h=>s7 _ _ (sM _ _ e) (aJ e npx) h
theorem rH {o : Option Int} {a b : Nat} (h : aT o a b = true) : ∃ n : Nat,a ≤ n∧n ≤ b∧o = some (n : Int):=by
 cases o with
 | none=>cases h
 | some i =>
  unfold aT at h
  simp at h
  exact ⟨i.toNat,by omega,by omega,by congr 1; omega⟩
theorem NewN.same {C Pt : Addr} {H H1 : Hp} {n : Nat} {ts : Ts} {Q : VK} (k : NewN C Pt H n ts Q) (s : Same H H1) : NewN C Pt H1 n ts Q:=fun p H' hp N t st=>k p H' (s.free hp) (N.weak fun a ha=>s.free ha) t fun b o e h=>st _ _ (s _ _ e) h
end
inductive Sd (K : W.Frag) (H : Hp) : V→Option (List (Option Int))→Prop where
 | tup {p : Addr} {xs : List V} {os : List (Option Int)} (h : H p = some (.tup xs)) (hl : xs.length = os.length) (e : ∀ (i : Nat) x o,xs[i]? = some x→os[i]? = some o→Wh K H x o) : Sd K H (.ref p) (some os)
 | no {x : V} {t : Value} (ty : TyX K H x t) (h : W.kitOne K t (.type "tuple") = some false) : Sd K H x none
def nsOf (os : List (Option Int)) : List Nat:=os.map fun o=>(o.getD 0).toNat
def box : Option (List (Option Int))→Option (List Nat)
 | none=>none
 | some os=>if decide (1 ≤ os.length) && (decide (os.length ≤ 5) && (os.all (fun o=>aT o 2 8) && decide (pr (nsOf os) ≤ 32))) then some (nsOf os) else none
theorem uF {os : List (Option Int)} {ns : List Nat} (h : box (some os) = some ns) : ns = nsOf os∧1 ≤ ns.length∧ns.length ≤ 5∧(∀ x∈ns,2 ≤ x∧x ≤ 8)∧pr ns ≤ 32∧os = ns.map fun (n : Nat)=>some (n : Int):=by
 unfold box at h
 dsimp only at h
 by_cases c : (decide (1 ≤ os.length) && (decide (os.length ≤ 5) && (os.all (fun o=>aT o 2 8) && decide (pr (nsOf os) ≤ 32)))) = true
 ·rw [if_pos c] at h
  simp only [Bool.and_eq_true,decide_eq_true_eq,List.all_eq_true] at c
  obtain ⟨c1,c2,c3,c4⟩:=c
  obtain rfl:=Option.some.inj h
  have ex : ∀ o∈os,∃ n : Nat,2 ≤ n∧n ≤ 8∧o = some (n : Int):=fun o ho=>rH (a:=2) (b:=8) (c3 o ho)
  refine ⟨rfl,by unfold nsOf; rw [List.length_map]; exact c1,by unfold nsOf; rw [List.length_map]; exact c2,fun x hx=>?_,c4,?_⟩
  ·obtain ⟨o,ho,rfl⟩:=List.mem_map.mp hx
   obtain ⟨n,n1,n2,rfl⟩:=ex o ho
   exact ⟨by show 2 ≤ (n : Int).toNat; omega,by show (n : Int).toNat ≤ 8; omega⟩
  ·unfold nsOf
   rw [List.map_map]
   conv=>lhs; rw [← List.map_id os]
   refine List.map_congr_left fun o ho=>?_
   obtain ⟨n,n1,n2,rfl⟩:=ex o ho
   show some (n : Int) = some (((n : Int).toNat : Nat) : Int)
   exact congrArg some (by omega)
 ·rw [if_neg c] at h; cases h
section
variable {P : Program} {w : World} {K : W.Frag} {mg : Str→Option Value} {base : Heap}
theorem oY : aM ["numbers", "result", "number"] ["numbers"] (aG yZ):=⟨rfl,rfl,rfl,by decide +kernel,rfl,by decide +kernel,by decide +kernel⟩
def lJ (K : W.Frag) : Sp:=fun vs H Q _=>∃ (a : Addr) (ns : List Nat),vs = [.ref a]∧SqT K H a (NV ns)∧(∀ x∈ns,x ≤ 1000)∧Q (.int (pr ns)) H
theorem aDl {f : Addr} {fd : FuncData} (F : Fun K "product" "product" yZ f fd) : FnOk P w K mg base CX0 1 f fd ["numbers"] (lJ K):=by
 refine F.ok oY (fun vs H Q E h=>?_) (fun cdv A outer s H vs Q E hr h=>?_)
 ·obtain ⟨a,ns,rfl,_⟩:=h
  rfl
 ·obtain ⟨a,ns,rfl,hS,hx,k⟩:=h
  refine ⟨_,aE (aS (i:=1) oY.nd rfl (Or.inl rfl) aK)
   (aE (cJ PassesOwn.never rfl (iZ (pv 0)) (aL (i:=2) oY.nd rfl (Or.inl rfl)) (aI (sD (i:=1) oY.nd rfl (Or.inl rfl) (pv 2) aAY)))
   (aI (aU (pv 1)))),?_⟩
  refine ⟨_,rfl,a,rfl,⟨_,hS⟩,jA (K:=K) (xs:=NV ns) (fun i σ H2=>H2 = H∧∃ x,σ = [some (.ref a),some (.int (mD (ns.take i))),x]) ⟨rfl,_,rfl⟩ (fun i σ H2 _ z=>by rw [z.1]; exact hS) ?_ ?_⟩
  ·rintro i x σ H2 hx' ⟨rfl,y,rfl⟩
   obtain ⟨v,hv,rfl⟩:=eR hx'
   have h1:=hx v (List.mem_of_getElem? hv)
   refine ⟨_,rfl,_,rfl,_,_,rfl,rfl,.inr ⟨by omega,by omega⟩,rfl,some (.int v),?_⟩
   have tk : ns.take (i + 1) = ns.take i ++ [v]:=by rw [List.take_add_one,hv]; rfl
   rw [tk,zA]; rfl
  ·rintro σ H2 ⟨rfl,x,rfl⟩
   rw [aN,List.take_length,aBY]
   exact ⟨_,rfl,k⟩
end
end K12
namespace NetM
def bxp (m : Nat) (ns : List Nat) (i : Nat) : List (Nat × Nat):=(List.range i).flatMap fun j=>bxr m (pr (ns.take j)) (ns.getD j 0)
theorem eS {α : Type} {f : Nat→List α} {n : Nat} : (List.range (n + 1)).flatMap f = (List.range n).flatMap f ++ f n:=by
 rw [List.range_succ,List.flatMap_append]; simp
theorem jK : ∀ {ns : List Nat} {x : Nat},pr (ns ++ [x]) = pr ns * x
 | [],x=>by show x * 1 = 1 * x; omega
 | n :: ns,x=>by show n * pr (ns ++ [x]) = n * pr ns * x; rw [jK,Nat.mul_assoc]
theorem aA0 {m : Nat} : ∀ {ns : List Nat} {st : Nat},bx m st ns = (List.range ns.length).flatMap fun j=>bxr m (st * pr (ns.take j)) (ns.getD j 0)
 | [],st=>rfl
 | n :: ns,st=>by
  show bxr m st n ++ bx m (st * n) ns = _
  rw [List.length_cons,List.range_succ_eq_map,List.flatMap_cons,aA0 (ns:=ns)]
  congr 1
  ·show bxr m st n = bxr m (st * 1) n
   rw [Nat.mul_one]
  ·rw [List.flatMap_map]
   congr 1
   funext j
   show _ = bxr m (st * (n * pr (ns.take j))) (ns.getD j 0)
   rw [Nat.mul_assoc]
end NetM
namespace K12
open PySem L2 NetM
section
variable {P : Program} {w : World} {K : W.Frag} {mg : Str→Option Value} {base : Heap}
theorem fQ {os : List (Option Int)} (h : (decide (1 ≤ os.length) && (decide (os.length ≤ 5) && (os.all (fun o=>aT o 2 8) && decide (pr (nsOf os) ≤ 32)))) = false) : box (some os) = none:=by
 unfold box
 dsimp only
 rw [h]; rfl
theorem uG {os : List (Option Int)} (h : (decide (1 ≤ os.length) && (decide (os.length ≤ 5) && (os.all (fun o=>aT o 2 8) && decide (pr (nsOf os) ≤ 32)))) = true) : box (some os) = some (nsOf os):=by
 unfold box
 dsimp only
 rw [h]; rfl
theorem Sd.nums {H : Hp} {p : Addr} {os : List (Option Int)} {xs : List V} (h : H p = some (.tup xs)) (hl : xs.length = os.length) (e : ∀ (i : Nat) x o,xs[i]? = some x→os[i]? = some o→Wh K H x o) (ha : os.all (fun o=>aT o 2 8) = true) : xs = NV (nsOf os)∧∀ x∈nsOf os,2 ≤ x∧x ≤ 8:=by
 have ex : ∀ o∈os,∃ n : Nat,2 ≤ n∧n ≤ 8∧o = some (n : Int):=fun o ho=>rH (a:=2) (b:=8) (List.all_eq_true.mp ha o ho)
 refine ⟨List.ext_getElem? fun i=>?_,fun x hx=>?_⟩
 ·unfold NV nsOf
  rw [List.getElem?_map,List.getElem?_map]
  cases c : xs[i]? with
  | none =>
   have : os[i]? = none:=by
    rw [List.getElem?_eq_none_iff] at c ⊢; omega
   rw [this]; rfl
  | some x =>
   have hi : i < os.length:=by have:=(List.getElem?_eq_some_iff.mp c).1; omega
   have c2 : os[i]? = some os[i]:=List.getElem?_eq_getElem hi
   obtain ⟨n,n1,n2,e3⟩:=ex os[i] (List.getElem_mem hi)
   have wh:=e i x _ c c2
   rw [c2,e3] at *
   obtain rfl:=jI wh
   show some (V.int (n : Int)) = some (V.int (((n : Int).toNat : Nat) : Int))
   rw [Int.toNat_natCast]
 ·obtain ⟨o,ho,rfl⟩:=List.mem_map.mp hx
  obtain ⟨n,n1,n2,rfl⟩:=ex o ho
  exact ⟨by show 2 ≤ (n : Int).toNat; omega,by show (n : Int).toNat ≤ 8; omega⟩
theorem uH : aM ["sides", "side"] ["sides"] (aG qD):=⟨rfl,rfl,rfl,by decide +kernel,rfl,by decide +kernel,by decide +kernel⟩
def nI (K : W.Frag) (CS : Addr) : Sp:=fun vs H Q E=>∃ (x : V) (o : Option (List (Option Int))),vs = [x]∧Sd K H x o∧(box o = none→E (.ref CS) none H)∧(∀ ns,box o = some ns→Q .non H)
theorem aA1 {f CS : Addr} {fd : FuncData} (F : Fun K "check_sides" "check_sides" qD f fd) (B : Bl mg) (e : Er K mg "NoShape" CS) (gM : ∃ t,mg "MOST_SIDES" = some (.int 5 t)) (gS : ∃ t,mg "SHORTEST_SIDE" = some (.int 2 t)) (gL : ∃ t,mg "LONGEST_SIDE" = some (.int 8 t)) (gH : ∃ t,mg "MOST_HOUSES" = some (.int 32 t))
  (W : Cal P w K mg base CX0 2 "is_whole_within" ["thing", "least", "most"] (iH K)) (PR : Cal P w K mg base CX0 1 "product" ["numbers"] (lJ K)) : FnOk P w K mg base (CXf P w) 3 f fd ["sides"] (nI K CS):=by
 obtain ⟨tM,gM⟩:=gM
 obtain ⟨tS,gS⟩:=gS
 obtain ⟨tL,gL⟩:=gL
 obtain ⟨tH,gH⟩:=gH
 refine F.okX uH (fun vs H Q E h=>?_) (fun cdv A outer s H vs Q E hr h=>?_)
 ·obtain ⟨x,o,rfl,_⟩:=h
  rfl
 ·obtain ⟨x,o,rfl,sd,k1,k2⟩:=h
  have h1 : Room 1 _:=hr.mono (by decide)
  refine ⟨_,aE (bR (PW.pt (gO (cS (cP (aO dD (by rfl) B.isi PyProof.Rows.boot_isinstance (aA (pv 0) (aA (dR (v:=.ty "tuple") rfl B.tup PyProof.Rows.boot_tuple rfl) aB))))) (hZ (cS (cP (aQ W hr aR (aA (aO bV (by rfl) B.len PySem.boot_len (aA (pv 0) aB)) (aA aK (aA (cE (v:=.int 5) rfl gM ⟨_,rfl⟩) aB))))))))) (aI (jV (q:=fun H1=>E (.ref CS) none H1) rfl e.ok rfl e.at_ (aA iW aB) (fun _ _ _ _ _ _ _ I m q=>jU I m q))) aZ)
   (aE (cJ ownX rfl (iZ (pv 0)) (aL (i:=1) uH.nd rfl (Or.inl rfl)) (aI (bR (cS (cP (aQ W hr aR (aA (pv 1) (aA (cE (v:=.int 2) rfl gS ⟨_,rfl⟩) (aA (cE (v:=.int 8) rfl gL ⟨_,rfl⟩) aB)))))) (aI (jV (q:=fun H1=>E (.ref CS) none H1) rfl e.ok rfl e.at_ (aA iW aB) (fun _ _ _ _ _ _ _ I m q=>jU I m q))) aZ)))
   (aI (bR (bA xK (aQ PR h1 aR (aA (pv 0) aB)) (cE (v:=.int 32) rfl gH ⟨_,rfl⟩) (bB _)) (aI (jV (q:=fun H1=>E (.ref CS) none H1) rfl e.ok rfl e.at_ (aA iW aB) (fun _ _ _ _ _ _ _ I m q=>jU I m q))) aZ))),?_⟩
  cases sd with
  | no ty h=>exact ⟨_,rfl,_,_,_,_,false,rfl,⟨rfl,h⟩,ty,_,rfl,iteT ⟨by show 1 ≤ sizeLine; decide,k1 rfl⟩⟩
  | @tup p xs os hp hl ew =>
   refine ⟨_,rfl,_,_,_,.type "tuple",true,rfl,⟨rfl,pV⟩,.of (.tup hp),_,rfl,iteF ?_⟩
   refine ⟨_,rfl,p,xs,rfl,.inr (SqT.of hp),_,_,1,5,rfl,.int _,_,rfl,?_⟩
   cases hw : aT (some ((xs.length : Nat) : Int)) 1 5 with
   | false =>
    refine iteT ⟨by show 1 ≤ sizeLine; decide,k1 (fQ ?_)⟩
    unfold aT at hw
    simp at hw
    by_cases c : 1 ≤ os.length
    ·rw [decide_eq_true c,decide_eq_false (show ¬ os.length ≤ 5 by omega)]; rfl
    ·rw [decide_eq_false c]; rfl
   | true =>
    have hw' : 1 ≤ os.length∧os.length ≤ 5:=by unfold aT at hw; simp at hw; omega
    refine iteF ⟨_,rfl,p,rfl,⟨_,SqT.of hp⟩,jA (K:=K) (xs:=xs) (fun i σ H2=>H2 = H∧(∃ v,σ = [some (.ref p),v])∧∀ j o,j < i→os[j]? = some o→aT o 2 8 = true) ⟨rfl,⟨_,rfl⟩,fun j o hj=>absurd hj (by omega)⟩ (fun i σ H2 _ z=>by rw [z.1]; exact SqT.of hp) ?_ ?_⟩
    ·rintro i v σ H2 hv ⟨rfl,⟨v',rfl⟩,hin⟩
     have hi : i < os.length:=by have:=(List.getElem?_eq_some_iff.mp hv).1; omega
     have ho : os[i]? = some os[i]:=List.getElem?_eq_getElem hi
     refine ⟨_,rfl,_,_,2,8,rfl,ew i v _ hv ho,_,rfl,?_⟩
     cases hc : aT os[i] 2 8 with
     | false =>
      refine iteT ⟨by show 1 ≤ sizeLine; decide,k1 (fQ ?_)⟩
      have : os.all (fun o=>aT o 2 8) = false:=by
       rw [List.all_eq_false]
       exact ⟨os[i],List.getElem_mem hi,by rw [hc]; decide⟩
      rw [decide_eq_true hw'.1,decide_eq_true hw'.2,this]; rfl
     | true =>
      refine iteF ⟨rfl,⟨_,rfl⟩,fun j o hj hjo=>?_⟩
      by_cases c : j = i
      ·subst c; rw [ho] at hjo; obtain rfl:=Option.some.inj hjo; exact hc
      ·exact hin j o (by omega) hjo
    ·rintro σ H2 ⟨rfl,⟨v',rfl⟩,hin⟩
     have ha : os.all (fun o=>aT o 2 8) = true:=List.all_eq_true.mpr fun o ho=>by
      obtain ⟨j,hj,rfl⟩:=List.mem_iff_getElem.mp ho
      exact hin j _ (by omega) (List.getElem?_eq_getElem hj)
     obtain ⟨ex,hx⟩:=Sd.nums hp hl ew ha
     subst ex
     refine ⟨_,rfl,p,nsOf os,rfl,SqT.of hp,fun x hx'=>by have:=hx x hx'; omega,_,_,rfl,rfl,_,rfl,?_⟩
     refine ite2 (fun c=>?_) (fun c=>?_)
     ·have c' : (32 : Int) < ((pr (nsOf os) : Nat) : Int):=by simpa using c
      refine ⟨by show 1 ≤ sizeLine; decide,k1 (fQ ?_)⟩
      rw [decide_eq_true hw'.1,decide_eq_true hw'.2,ha,decide_eq_false (by omega)]; rfl
     ·have c' : ¬ (32 : Int) < ((pr (nsOf os) : Nat) : Int):=by simpa using c
      exact k2 _ (uG (by rw [decide_eq_true hw'.1,decide_eq_true hw'.2,ha,decide_eq_true (by omega)]; rfl))
end
end K12
namespace K12
open PySem L2 NetM
theorem aCr {A B : Prop} {b : Bool} (hb : b = true) (h : A) : if b = true then A else B:=by rw [if_pos hb]; exact h
theorem oZ {A B : Prop} {b : Bool} (hb : b = false) (h : B) : if b = true then A else B:=by rw [if_neg (by rw [hb]; decide)]; exact h
theorem aBZ {m st n : Nat} : bxr (m + 1) st n = bxr m st n ++ (if m / st % n + 1 < n then [(m,m + st)] else []):=by
 unfold bxr
 rw [List.range_succ,List.filter_append,List.map_append,List.filter_cons]
 by_cases c : m / st % n + 1 < n
 ·rw [if_pos (decide_eq_true c),if_pos c]; rfl
 ·rw [if_neg (by simpa using c),if_neg c]; rfl
theorem kD : ∀ {ns : List Nat} {i : Nat},(∀ x∈ns,1 ≤ x)→pr (ns.take i) ≤ pr ns
 | [],i,_=>by rw [List.take_nil]; exact Nat.le_refl _
 | n :: ns,0,h=>by
  show 1 ≤ n * pr ns
  have : ∀ {l : List Nat},(∀ x∈l,1 ≤ x)→1 ≤ pr l:=fun {l}=>by
   induction l with
   | nil=>intro _; exact Nat.le_refl _
   | cons x l ih=>intro hl; exact Nat.mul_pos (hl x List.mem_cons_self) (ih fun y hy=>hl y (List.mem_cons_of_mem _ hy))
  exact this (l:=n :: ns) h
 | n :: ns,i + 1,h=>by
  show n * pr (ns.take i) ≤ n * pr ns
  exact Nat.mul_le_mul_left n (kD fun x hx=>h x (List.mem_cons_of_mem _ hx))
section
variable {P : Program} {w : World} {K : W.Frag} {mg : Str→Option Value} {base : Heap}
theorem fR : aM ["sides", "pairs", "step", "side", "house"] ["sides"] (aG qE):=⟨rfl,rfl,rfl,by decide +kernel,rfl,by decide +kernel,by decide +kernel⟩
def nJ : Sp:=fun vs H Q _=>∃ (a : Addr) (ns : List Nat),vs = [.ref a]∧H a = some (.tup (NV ns))∧ns.length ≤ 5∧(∀ x∈ns,2 ≤ x∧x ≤ 8)∧pr ns ≤ 32∧∀ (r : Addr) (zs : Zs) (H' : Hp),Same H H'→H r = none→H' r = some (.lst (zr zs))→PO H' zs→zp zs = (boxQ ns).map ci2→Q (.ref r) H'
theorem aA2 {f : Addr} {fd : FuncData} (F : Fun K "box_pairs" "box_pairs" qE f fd) (B : Bl mg) (PR : Cal P w K mg base CX0 1 "product" ["numbers"] (lJ K)) : FnOk P w K mg base CX0 2 f fd ["sides"] nJ:=by
 refine F.ok fR (fun vs H Q E h=>?_) (fun cdv A outer s H vs Q E hr h=>?_)
 ·obtain ⟨a,ns,rfl,_⟩:=h
  rfl
 ·obtain ⟨a,ns,rfl,ha,hl,hn,hm,k⟩:=h
  refine ⟨_,aE (aS (i:=1) fR.nd rfl (Or.inl rfl) (cT aB))
   (aE (aS (i:=2) fR.nd rfl (Or.inl rfl) aK)
   (aE (cJ PassesOwn.never rfl (iZ (pv 0)) (aL (i:=3) fR.nd rfl (Or.inl rfl))
    (aE (cJ PassesOwn.never rfl (cA rfl B.range (aA (aQ PR hr aR (aA (pv 0) aB)) aB)) (aL (i:=4) fR.nd rfl (Or.inl rfl))
     (aI (bR (bA nV (aV cZ (aV eM (aV gZ (pv 4) (pv 2)) (pv 3)) aK) (pv 3) (bB _))
      (aI (cH (gB PySem.F.plainAttrs_list PySem.F.slot_list_append PySem.F.type_list_append dA (pv 1) (aA (cW (aA (pv 4) (aA (aV cZ (pv 4) (pv 2)) aB))) aB)))) aZ)))
    (aI (sD (i:=2) fR.nd rfl (Or.inl rfl) (pv 3) aAY))))
   (aI (aU (pv 1))))),?_⟩
  refine ⟨by show 0 ≤ sizeLine; decide,fun D hD=>?_⟩
  have s0:=aF (o:=.lst []) hD
  have hn1 : ∀ x∈ns,1 ≤ x:=fun x hx=>by have:=hn x hx; omega
  refine ⟨_,rfl,a,rfl,⟨_,SqT.of (s0 _ _ ha)⟩,jA (K:=K) (xs:=NV ns) (fun i σ H2=>(∃ x3 x4,σ = [some (.ref a),some (.ref D),some (.int ((pr (ns.take i) : Nat) : Int)),x3,x4])∧fK H D ((bxp (pr ns) ns i).map ci2) H2) ⟨⟨_,_,rfl⟩,s0,[],aD,PO.nil,rfl⟩ (fun i σ H2 _ z=>SqT.of (z.2.1 _ _ ha)) ?_ ?_⟩
  ·rintro i x σ H2 hx ⟨⟨x3,x4,rfl⟩,P2⟩
   obtain ⟨n,hv,rfl⟩:=eR hx
   have hi : i < ns.length:=(List.getElem?_eq_some_iff.mp hv).1
   have hnn:=hn n (List.mem_of_getElem? hv)
   have hst:=kD (ns:=ns) (i:=i) hn1
   have hst0 : 1 ≤ pr (ns.take i):=by
    have:=kD (ns:=ns.take i) (i:=0) fun x hx=>hn1 x (List.mem_of_mem_take hx)
    exact this
   have gd : ns.getD i 0 = n:=by rw [List.getD_eq_getElem?_getD,hv]; rfl
   have tk : ns.take (i + 1) = ns.take i ++ [n]:=by rw [List.take_add_one,hv]; rfl
   rw [tk,jK]
   have eB : bxp (pr ns) ns (i + 1) = bxp (pr ns) ns i ++ bxr (pr ns) (pr (ns.take i)) n:=by unfold bxp; rw [eS,gd]
   rw [eB]
   generalize pr (ns.take i) = st at *
   refine ⟨_,rfl,a,ns,rfl,SqT.of (P2.1 _ _ ha),fun x hx=>by have:=hn x hx; omega,?_⟩
   refine ⟨((pr ns : Nat) : Int),rfl,by omega,by omega,eA (n:=pr ns) (lo:=0) (fun j σ H4=>(∃ x4,σ = [some (.ref a),some (.ref D),some (.int (st : Int)),some (.int (n : Int)),x4])∧fK H D ((bxp (pr ns) ns i ++ bxr j st n).map ci2) H4) ⟨⟨_,rfl⟩,by rw [show bxr 0 st n = [] from rfl,List.append_nil]; exact P2⟩ ?_ ?_⟩
   ·rintro j σ H4 hj ⟨⟨x4',rfl⟩,sm4,zs4,hz4,po4,ez4⟩
    have hdv : ((0 : Int) + (j : Int)) / (st : Int) % (n : Int) + 1 = (((j / st % n + 1 : Nat)) : Int):=by rw [Int.zero_add]; rfl
    refine ⟨_,rfl,_,rfl,_,_,rfl,rfl,⟨by omega,by omega⟩,_,rfl,_,_,rfl,rfl,(by show (0 : Int) < (n : Int); omega),_,_,rfl,rfl,_,rfl,_,_,rfl,rfl,_,rfl,?_⟩
    rw [hdv,aBZ]
    by_cases c : j / st % n + 1 < n
    ·rw [if_pos c]
     refine aCr (decide_eq_true (by omega)) ?_
     rw [Int.zero_add]
     refine ⟨_,rfl,.inl ⟨rfl,_,SqL.of hz4⟩,_,rfl,_,rfl,_,rfl,_,_,rfl,rfl,by show 2 ≤ sizeLine; decide,fun t ht=>?_⟩
     have len4 : zs4.length ≤ 1000:=by
      have e:=congrArg List.length ez4
      rw [bK,List.length_map,List.length_append] at e
      have z1 : ∀ m' s' n',(bxr m' s' n').length ≤ m':=fun m' s' n'=>by unfold bxr; rw [List.length_map]; exact Nat.le_trans (List.length_filter_le _ _) (by simp)
      have z2 : ∀ i',(bxp (pr ns) ns i').length ≤ i' * 32:=fun i'=>by
       induction i' with
       | zero=>exact Nat.le_refl _
       | succ i' ih=>unfold bxp at ih ⊢; rw [eS,List.length_append,Nat.succ_mul]; have:=z1 (pr ns) (pr (ns.take i')) (ns.getD i' 0); omega
      have:=z2 i
      have:=z1 j st n
      omega
     refine ⟨D,_,_,rfl,rfl,aF ht _ _ hz4,by rw [dB]; exact Nat.lt_of_le_of_lt len4 (by decide),⟨_,rfl⟩,?_⟩
     have P5:=fK.add (u:=ci2 (j,j + st)) hD sm4 hz4 po4 ez4 ht
     rw [← List.append_assoc,List.map_append (l₂:=[(j,j + st)])]
     exact P5
    ·rw [if_neg c,List.append_nil]
     refine oZ (decide_eq_false (by omega)) ⟨⟨_,rfl⟩,sm4,zs4,hz4,po4,ez4⟩
   ·rintro σ H4 ⟨⟨x4',rfl⟩,P4⟩
    exact ⟨_,rfl,_,rfl,_,_,rfl,rfl,.inr ⟨by omega,by omega⟩,⟨_,_,rfl⟩,P4⟩
  ·rintro σ H2 ⟨⟨x3,x4,rfl⟩,sm2,zs,hz,po,ez⟩
   refine ⟨_,rfl,k D zs H2 sm2 hD hz po ?_⟩
   rw [ez,aN]
   unfold boxQ bxp
   rw [aA0]
   simp only [Nat.one_mul]
theorem aEh : aM ["sides"] ["sides"] (aG yY):=⟨rfl,rfl,rfl,by decide +kernel,rfl,by decide +kernel,by decide +kernel⟩
def lK (K : W.Frag) (C Pt CS : Addr) : Sp:=fun vs H Q E=>∃ (x : V) (o : Option (List (Option Int))),vs = [x]∧Sd K H x o∧Tab Pt H∧(box o = none→E (.ref CS) none H)∧(∀ ns,box o = some ns→NewN C Pt H (pr ns) (dbl ((boxQ ns).map ci2)) Q)
theorem aDm {f C Pt CS : Addr} {fd : FuncData} (F : Fun K "box_net" "box_net" yY f fd) (CSd : Cal P w K mg base (CXf P w) 3 "check_sides" ["sides"] (nI K CS)) (PN : Cal P w K mg base CX0 9 "pairs_net" ["many", "pairs"] (nG C Pt)) (PR : Cal P w K mg base CX0 1 "product" ["numbers"] (lJ K)) (BP : Cal P w K mg base CX0 2 "box_pairs" ["sides"] nJ) :
  FnOk P w K mg base (CXf P w) 10 f fd ["sides"] (lK K C Pt CS):=by
 refine F.okX aEh (fun vs H Q E h=>?_) (fun cdv A outer s H vs Q E hr h=>?_)
 ·obtain ⟨x,o,rfl,_⟩:=h
  rfl
 ·obtain ⟨x,o,rfl,sd,tb,k1,k2⟩:=h
  have h1 : Room 1 _:=hr.mono (by decide)
  have h2 : Room 2 _:=hr.mono (by decide)
  have h3 : Room 3 _:=hr.mono (by decide)
  refine ⟨_,aE (cH (aQ CSd h3 (oG (E':=E) fun _ _ _ z=>z) (aA (pv 0) aB)))
   (aI (aU (aQ PN hr aR (aA (aQ PR h1 aR (aA (pv 0) aB)) (aA (aQ BP h2 aR (aA (pv 0) aB)) aB))))),?_⟩
  refine ⟨_,rfl,x,o,rfl,sd,k1,fun ns hb=>?_⟩
  cases sd with
  | no ty h=>cases hb
  | @tup p xs os hp hl ew =>
   obtain ⟨e1,l1,l2,hn,hm,eo⟩:=uF hb
   have ha : os.all (fun o=>aT o 2 8) = true:=List.all_eq_true.mpr fun o ho=>by
    rw [eo] at ho
    obtain ⟨n,hn',rfl⟩:=List.mem_map.mp ho
    have:=hn n hn'
    unfold aT; simp; omega
   obtain ⟨ex,_⟩:=Sd.nums hp hl ew ha
   rw [← e1] at ex
   subst ex
   refine ⟨_,rfl,p,ns,rfl,SqT.of hp,fun x hx=>by have:=hn x hx; omega,?_⟩
   refine ⟨_,rfl,p,ns,rfl,hp,l2,hn,hm,fun r zs H2 s2 hr2 hr2' po ez=>?_⟩
   refine ⟨pr ns,r,zs,rfl,hr2',po,?_,tb.same s2,?_⟩
   ·rw [ez]
    exact tT (fun x hx=>(hn x hx).1) (by rintro rfl; simp at l1) hm
   ·rw [ez]
    exact (k2 ns hb).same s2
end
end K12
namespace L2
open PySem PySem.Spec PyProof.Rows
theorem aB0 {K : W.Frag} {a D : Addr} {xs : List V} {g : TG} {tt : TT} {te : TE} {fin : Hp→Prop} {σB : St} {H0 : Hp} (Pv : Nat→List V→St→Hp→Prop) (h0 : Pv 0 [] σB H0)
  (hl : ∀ i ys σ H,i ≤ xs.length→Pv i ys σ H→SqT K H a xs)
  (hs : ∀ i x ys σ H (Kt : V→St→Hp→Prop) (Kf : St→Hp→Prop),xs[i]? = some x→Pv i ys σ H →
   (∀ v σ2 H4,H4 D = some (.lst ys)→ys.length < sizeLine→Pv (i + 1) (ys ++ [v]) σ2 (upd H4 D (.lst (ys ++ [v])))→Kt v σ2 H4)→(∀ σ2 H3,Pv (i + 1) ys σ2 H3→Kf σ2 H3) →
   g x σ H fun σ2 H2=>tt σ2 H2 fun b H3=>if b = true then te σ2 H3 fun v H4=>Kt v σ2 H4 else Kf σ2 H3)
  (hd : ∀ ys σ H,Pv xs.length ys σ H→fin H) : gC (Itt K a) g tt te D fin σB H0:=by
 refine ⟨fun i m σ H=>m = xs.length - i∧i ≤ xs.length∧∃ ys,Pv i ys σ H,⟨xs.length,by simp,Nat.zero_le _,[],h0⟩,?_⟩
 rintro i m σ H ⟨rfl,hi,ys,p⟩
 have q:=hl i ys σ H hi p
 by_cases hlt : i < xs.length
 ·refine .inr ⟨⟨xs,xs[i],q,by simp [hlt]⟩,?_⟩
  rintro x H' ⟨rfl,y⟩
  exact hs i x ys σ _ (fun v σ2 H4=>∃ ys,H4 D = some (.lst ys)∧ys.length < sizeLine∧∃ m',m' < xs.length - i∧m' = xs.length - (i + 1)∧i + 1 ≤ xs.length∧∃ ys',Pv (i + 1) ys' σ2 (upd H4 D (.lst (ys ++ [v]))))
   (fun σ2 H3=>∃ m',m' < xs.length - i∧m' = xs.length - (i + 1)∧i + 1 ≤ xs.length∧∃ ys',Pv (i + 1) ys' σ2 H3) (y xs q) p
   (fun v σ2 H4 z1 z2 z3=>⟨ys,z1,z2,_,by omega,rfl,hlt,_,z3⟩) (fun σ2 H3 z=>⟨_,by omega,rfl,hlt,_,z⟩)
 ·have e : i = xs.length:=by omega
  subst e
  exact .inl ⟨⟨xs,q,Nat.le_refl _⟩,hd ys σ H p⟩
end L2
namespace L2
open PySem PySem.Spec PyProof.Rows
def tDct : TE:=fun _ H Q=>∀ p,H p = none→Q (.ref p) (upd H p (.dK []))
theorem aEi {X : Cx} {pos : Pos} : PE X (.Dict [] [] pos) tDct:=by
 intro pins s σ H Q I h
 have hs : sysModules < s.heap.objs.size:=Nat.lt_trans (by decide : sysModules < mainGlobals) (I.mod.glob.keeps I.bk).lt
 refine wpAny_Dict_empty ⟨.ref s.heap.objs.size,upd H s.heap.objs.size (.dK []),?_,rfl,h _ (I.hok.fresh (Nat.le_refl _))⟩
 refine I.laidN (t':=s.toks) (fun _ _ q=>Heap.get?_push_of_some _ q) (Heap.get?_none_of_le (Nat.le_refl _)) ⟨Nat.zero_le _,?_,[],.nil,Heap.DictOf.new _⟩
 rw [beq_eq_false_iff_ne]
 exact Nat.ne_of_gt hs
section
variable {X : Cx} {es : List Expr} {te : TE} {t : TA}
theorem fU {c : Const} {j : Nat} {pos : Pos} (ha : PE X (.Constant c j pos) te) (hr : PA X es t) : PA X (.Constant c j pos :: es) (aY te t):=aA ha hr rfl
theorem aDn {a : List Expr} {j : Nat} {pos : Pos} (ha : PE X (.Tuple a j pos) te) (hr : PA X es t) : PA X (.Tuple a j pos :: es) (aY te t):=aA ha hr rfl
theorem aDo {a : List Expr} {pos : Pos} (ha : PE X (.List a pos) te) (hr : PA X es t) : PA X (.List a pos :: es) (aY te t):=aA ha hr rfl
theorem aDp {pos : Pos} (ha : PE X (.Dict [] [] pos) te) (hr : PA X es t) : PA X (.Dict [] [] pos :: es) (aY te t):=aA ha hr rfl
theorem aDq {a b : Expr} {o : Operator} {pos : Pos} (ha : PE X (.BinOp a o b pos) te) (hr : PA X es t) : PA X (.BinOp a o b pos :: es) (aY te t):=aA ha hr rfl
def Q9 (es : List Expr) : Prop:=∃ j p,es = [.Constant (.str "") j p]
def Q7 (es : List Expr) : Prop:=∃ a b c d e es',es = .BinOp (.Constant (.int 10) a b) .Pow (.Constant (.int 50) c d) e :: es'∧Q9 es'
def Q6 (es : List Expr) : Prop:=∃ p es',es = .Dict [] [] p :: es'∧Q7 es'
def Q5 (es : List Expr) : Prop:=∃ a b p es',es = .List [.Constant (.int 2) a b] p :: es'∧Q6 es'
def Q4 (es : List Expr) : Prop:=∃ a b c p es',es = .Tuple [.Constant (.int 2) a b] c p :: es'∧Q5 es'
def Q3 (es : List Expr) : Prop:=∃ a b es',es = .Constant (.str "2") a b :: es'∧Q4 es'
def Q2 (es : List Expr) : Prop:=∃ a b es',es = .Constant (.bool false) a b :: es'∧Q3 es'
def Q1 (es : List Expr) : Prop:=∃ a b es',es = .Constant (.bool true) a b :: es'∧Q2 es'
def Q0 (es : List Expr) : Prop:=∃ a b es',es = .Constant .none a b :: es'∧Q1 es'
abbrev tq9 : TA:=aY (tC (.str "")) tNil
abbrev tq7 : TA:=aY (tOp (rI CPow fun i j=>.int (i ^ j.toNat)) (tC (.int 10)) (tC (.int 50))) tq9
abbrev tq6 : TA:=aY tDct tq7
abbrev tq5 : TA:=aY (tLst (aY (tC (.int 2)) tNil)) tq6
abbrev tq4 : TA:=aY (tTup (aY (tC (.int 2)) tNil)) tq5
abbrev tq3 : TA:=aY (tC (.str "2")) tq4
abbrev tq2 : TA:=aY (tC (.bl false)) tq3
abbrev tq1 : TA:=aY (tC (.bl true)) tq2
abbrev tq0 : TA:=aY (tC .non) tq1
theorem paQ9 (h : Q9 es) : PA X es tq9:=by obtain ⟨j,p,rfl⟩:=h; exact fU iW aB
theorem paQ7 (h : Q7 es) : PA X es tq7:=by obtain ⟨a,b,c,d,e,es',rfl,h⟩:=h; exact aDq (aV nU aK aK) (paQ9 h)
theorem paQ6 (h : Q6 es) : PA X es tq6:=by obtain ⟨p,es',rfl,h⟩:=h; exact aDp aEi (paQ7 h)
theorem paQ5 (h : Q5 es) : PA X es tq5:=by obtain ⟨a,b,p,es',rfl,h⟩:=h; exact aDo (cT (fU aK aB)) (paQ6 h)
theorem paQ4 (h : Q4 es) : PA X es tq4:=by obtain ⟨a,b,c,p,es',rfl,h⟩:=h; exact aDn (cW (fU aK aB)) (paQ5 h)
theorem paQ3 (h : Q3 es) : PA X es tq3:=by obtain ⟨a,b,es',rfl,h⟩:=h; exact fU iW (paQ4 h)
theorem paQ2 (h : Q2 es) : PA X es tq2:=by obtain ⟨a,b,es',rfl,h⟩:=h; exact fU nQ (paQ3 h)
theorem paQ1 (h : Q1 es) : PA X es tq1:=by obtain ⟨a,b,es',rfl,h⟩:=h; exact fU nQ (paQ2 h)
theorem paQ0 (h : Q0 es) : PA X es tq0:=by obtain ⟨a,b,es',rfl,h⟩:=h; exact fU dZ (paQ1 h)
end
end L2
namespace K12
open PySem L2 NetM
abbrev sPot : Stmt:=top 41
abbrev uI : Stmt:=top 42
abbrev pA : Stmt:=top 45
def bD (H : Hp) (p : Addr) : Prop:=∃ a b : Int,H p = some (.lst [.int a,.int b])∧0 ≤ a∧0 ≤ b∧b < 2147483647
theorem bD.same {H H' : Hp} {p : Addr} (h : bD H p) (s : Same H H') : bD H' p:=let ⟨a,b,e,r⟩:=h; ⟨a,b,s _ _ e,r⟩
theorem bD.full {H : Hp} {p : Addr} (h : bD H p) : H p ≠ none:=by obtain ⟨a,b,e,_⟩:=h; rw [e]; intro z; cases z
theorem bD.ne {H : Hp} {p q : Addr} (h : bD H p) (e : H q = none) : q ≠ p:=by rintro rfl; exact h.full e
theorem bD.put {H : Hp} {p q : Addr} {o : HO} (h : bD H p) (n : p ≠ q) : bD (upd H q o) p:=let ⟨a,b,e,r⟩:=h; ⟨a,b,by rw [aH n]; exact e,r⟩
theorem bD.neT {H : Hp} {p q : Addr} {xs : List V} (h : bD H p) (e : H q = some (.tup xs)) : q ≠ p:=by rintro rfl; obtain ⟨a,b,z,_⟩:=h; rw [e] at z; cases z
section
variable {P : Program} {w : World} {K : W.Frag} {mg : Str→Option Value} {base : Heap}
theorem zB : aM ["_law_script", "_law_k", "_law_cell"] ["_law_script", "_law_k"] (aG sPot):=⟨rfl,rfl,rfl,by decide +kernel,rfl,by decide +kernel,by decide +kernel⟩
def zC (K : W.Frag) : Sp:=fun vs H Q _=>∃ (a : Addr) (ns : List Int) (k : Nat),vs = [.ref a,.int k]∧SqL K H a (ns.map V.int)∧k < 64∧∀ (r : Addr) (H' : Hp),Same H H'→H r = none→bD H' r→Q (.ref r) H'
theorem aA3 {x : Int} (h0 : 0 ≤ x) (h1 : x < 2 ^ 63) : x.natAbs < 2 ^ 64:=by omega
theorem aEj {f : Addr} {fd : FuncData} (F : Fun K "_law_pot" "_law_pot" sPot f fd) (B : Bl mg) : FnOk P w K mg base CX0 1 f fd ["_law_script", "_law_k"] (zC K):=by
 refine F.ok zB (fun vs H Q E h=>?_) (fun cdv A outer s H vs Q E hr h=>?_)
 ·obtain ⟨a,ns,k,rfl,_⟩:=h
  rfl
 ·obtain ⟨a,ns,k,rfl,hS,hk,q⟩:=h
  refine ⟨_,aE (aS (i:=2) zB.nd rfl (Or.inl rfl) aK)
   (aE (bR (bA nV (pv 1) (aO bV (by rfl) B.len PySem.boot_len (aA (pv 0) aB)) (bB _)) (aI (aS (i:=2) zB.nd rfl (Or.inl rfl) (bL aX (pv 0) (pv 1) (fun _ _=>rfl)))) aZ)
   (aI (aU (cT (aA (aO (qQ rfl) (by rfl) B.max PyProof.Rows.boot_max (aA aK (aA (aV gI (pv 2) (aV nU aK aK)) aB)))
    (aA (aV eM (aV nU (aV cZ (aV eM (pv 2) aK) (aV sI aK (aV cZ (pv 1) aK))) aK) aK) aB)))))),?_⟩
  have fin : ∀ c : Int,tRet (tLst (aY (tCB (fun xs H Q=>∃ i j,xs = [V.int i,.int j]∧Q (.int (if j > i then j else i)) H) (aY (tC (.int 0)) (aY (tOp (rI0 fun i j=>.int (i - j)) (tVar 2) (tOp (rI CPow fun i j=>.int (i ^ j.toNat)) (tC (.int 10)) (tC (.int 18)))) tNil)))
    (aY (tOp (rI (fun _ j=>0 < j) fun i j=>.int (i % j)) (tOp (rI CPow fun i j=>.int (i ^ j.toNat)) (tOp (rI0 fun i j=>.int (i + j)) (tOp (rI (fun _ j=>0 < j) fun i j=>.int (i % j)) (tVar 2) (tC (.int 2147483629))) (tOp (rI CMul fun i j=>.int (i * j)) (tC (.int 7919)) (tOp (rI0 fun i j=>.int (i + j)) (tVar 1) (tC (.int 1))))) (tC (.int 3))) (tC (.int 2147483647))) tNil)))
    { nx:=fun _ H'=>Q .non H',rt:=Q } [some (.ref a),some (.int k),some (.int c)] H:=fun c=>by
   have m0 : 0 ≤ c % 2147483629:=Int.emod_nonneg _ (by decide)
   have m1 : c % 2147483629 < 2147483629:=Int.emod_lt_of_pos _ (by decide)
   refine ⟨_,rfl,_,_,rfl,rfl,⟨by decide,by decide,by decide⟩,_,_,rfl,rfl,0,_,rfl,?_⟩
   refine ⟨_,rfl,_,_,rfl,rfl,(by show (0 : Int) < 2147483629; decide),_,rfl,_,_,rfl,rfl,_,_,rfl,rfl,.inl ⟨by decide,by decide⟩,_,_,rfl,rfl,_,_,rfl,rfl,⟨by decide,by decide,?_⟩,_,_,rfl,rfl,(by show (0 : Int) < 2147483647; decide),by show 2 ≤ sizeLine; decide,fun r hr'=>?_⟩
   ·refine aA3 (by omega) (by omega)
   ·refine q r _ (aF hr') hr' ⟨_,_,aD,?_,Int.emod_nonneg _ (by decide),Int.emod_lt_of_pos _ (by decide)⟩
    split <;> omega
  refine ⟨_,rfl,_,rfl,a,ns.map V.int,rfl,.inl hS,_,_,rfl,rfl,_,rfl,?_⟩
  refine ite2 (fun e=>?_) (fun e=>?_)
  ·have hlt : k < ns.length:=by
    have : (k : Int) < ((ns.map V.int).length : Int):=by simpa using e
    rw [List.length_map] at this; omega
   refine ⟨_,rfl,_,rfl,a,_,_,_,rfl,rfl,hS,aW (v:=.int ns[k]) (by rw [List.getElem?_map,List.getElem?_eq_getElem hlt]; rfl),?_⟩
   exact fin _
  ·exact fin _
theorem wZ : aM ["_law_pot_here", "_law_many", "_law_digit_here"] ["_law_pot_here", "_law_many"] (aG uI):=⟨rfl,rfl,rfl,by decide +kernel,rfl,by decide +kernel,by decide +kernel⟩
def eI : Sp:=fun vs H Q _=>∃ (p : Addr) (m : Nat),vs = [.ref p,.int m]∧0 < m∧m < 1000000∧bD H p∧∀ (d : Nat) (H' : Hp),d < m→aP p H H'→bD H' p→Q (.int d) H'
theorem aB1 {f : Addr} {fd : FuncData} (F : Fun K "_law_digit" "_law_digit" uI f fd) : FnOk P w K mg base CX0 1 f fd ["_law_pot_here", "_law_many"] eI:=by
 refine F.ok wZ (fun vs H Q E h=>?_) (fun cdv A outer s H vs Q E hr h=>?_)
 ·obtain ⟨p,m,rfl,_⟩:=h
  rfl
 ·obtain ⟨p,m',rfl,m0',m1',⟨a,b,hp,a0,b0,b1⟩,q'⟩:=h
  generalize hm : ((m' : Nat) : Int) = m
  have m0 : 0 < m:=by omega
  have m1 : m < 1000000:=by omega
  have q : ∀ (d a b : Int),0 ≤ d→d < m→0 ≤ a→0 ≤ b→b < 2147483647→Q (.int d) (upd H p (.lst [.int a,.int b])):=fun d a b h1 h2 h3 h4 h5=>by
   have:=q' d.toNat _ (by omega) aP.upd ⟨a,b,aD,h3,h4,h5⟩
   rw [Int.toNat_of_nonneg h1] at this
   exact this
  refine ⟨_,aE (bR (bA xK (bL aX (pv 0) aK (fun _ _=>rfl)) aK (bB _))
    (aE (aS (i:=2) wZ.nd rfl (Or.inl rfl) (aV eM (bL aX (pv 0) aK (fun _ _=>rfl)) (pv 1)))
    (aE (iY (aV gZ (bL aX (pv 0) aK (fun _ _=>rfl)) (pv 1)) (nS (pv 0) aK jR))
    (aI (aU (pv 2))))) aZ)
   (aE (iY (aV eM (aV cZ (aV sI (bL aX (pv 0) aK (fun _ _=>rfl)) aK) aK) aK) (nS (pv 0) aK jR))
   (aI (aU (aV eM (aV gZ (aV eM (aV nU (bL aX (pv 0) aK (fun _ _=>rfl)) aK) aK) aK) (pv 1))))),?_⟩
  have g0 : atI [V.int a,V.int b] 0 = some (.int a):=aW (j:=0) rfl
  have g1 : atI [V.int a,V.int b] 1 = some (.int b):=aW (j:=1) rfl
  refine ⟨_,rfl,p,_,_,_,rfl,rfl,SqL.of hp,g0,_,_,rfl,rfl,_,rfl,?_⟩
  refine ite2 (fun e=>?_) (fun e=>?_)
  ·refine ⟨_,rfl,p,_,_,_,rfl,rfl,SqL.of hp,g0,_,rfl,_,_,rfl,rfl,m0,?_⟩
   refine ⟨_,rfl,p,_,_,_,rfl,rfl,SqL.of hp,g0,_,rfl,_,_,rfl,rfl,⟨m0,by omega⟩,?_⟩
   refine ⟨_,rfl,p,_,0,0,rfl,rfl,hp,jE (j:=0) (by show 0 < 2; decide),?_⟩
   refine ⟨_,rfl,?_⟩
   exact q _ _ _ (Int.emod_nonneg _ (by omega)) (Int.emod_lt_of_pos _ m0) (Int.ediv_nonneg a0 (by omega)) b0 b1
  ·refine ⟨_,rfl,p,_,_,_,rfl,rfl,SqL.of hp,g1,_,_,rfl,rfl,.inl ⟨by omega,by omega⟩,_,_,rfl,rfl,_,_,rfl,rfl,(by show (0 : Int) < 2147483647; decide),?_⟩
   refine ⟨_,rfl,p,_,1,1,rfl,rfl,hp,jE (j:=1) (by show 1 < 2; decide),?_⟩
   have c0 : 0 ≤ (b * 48271 + 11) % 2147483647:=Int.emod_nonneg _ (by decide)
   have c1 : (b * 48271 + 11) % 2147483647 < 2147483647:=Int.emod_lt_of_pos _ (by decide)
   refine ⟨_,rfl,p,_,_,_,rfl,rfl,SqL.of aD,aW (j:=1) rfl,_,_,rfl,rfl,⟨by decide,by decide,aA3 c0 (by omega)⟩,_,_,rfl,rfl,(by show (0 : Int) < 2147483629; decide),_,_,rfl,rfl,⟨by decide,by decide⟩,_,rfl,_,_,rfl,rfl,m0,?_⟩
   exact q _ _ _ (Int.emod_nonneg _ (by omega)) (Int.emod_lt_of_pos _ m0) a0 c0 c1
theorem TyX.keep {H H' : Hp} {x : V} {t : Value} (e : ∀ a o,x = .ref a→H a = some o→H' a = some o) (h : TyX K H x t) : TyX K H' x t:=by
 cases h with
 | exc T q=>exact .exc T (e _ _ rfl q)
 | of h =>
  refine .of ?_
  cases h with
  | non=>exact .non
  | bl b=>exact .bl b
  | int i=>exact .int i
  | str z=>exact .str z
  | flt z=>exact .flt z
  | lst q=>exact .lst (e _ _ rfl q)
  | frz q=>exact .frz (e _ _ rfl q)
  | tup q=>exact .tup (e _ _ rfl q)
  | dK q=>exact .dK (e _ _ rfl q)
  | dT q=>exact .dT (e _ _ rfl q)
  | ins q a b c d m=>exact .ins (e _ _ rfl q) a b c d m
theorem Wh.keep {H H' : Hp} {x : V} {o : Option Int} (e : ∀ a o,x = .ref a→H a = some o→H' a = some o) (h : Wh K H x o) : Wh K H' x o:=by
 cases h with
 | int i=>exact .int i
 | no h =>
  obtain ⟨t,ty,q⟩:=h
  exact .no ⟨t,TyX.keep e ty,q⟩
theorem Wh.same {H H' : Hp} {x : V} {o : Option Int} (e : Same H H') (h : Wh K H x o) : Wh K H' x o:=h.keep fun a o _ z=>e a o z
end
end K12
namespace NetM
def dig : List Nat→Nat→List Nat
 | [],_=>[]
 | n :: ns,h=>(h % n) :: dig ns (h / n)
theorem eJ : ∀ {ns : List Nat} {h : Nat},(dig ns h).length = ns.length
 | [],_=>rfl
 | n :: ns,h=>by show (dig ns (h / n)).length + 1 = ns.length + 1; rw [eJ]
theorem uJ : ∀ {ns : List Nat} {n h : Nat},dig (ns ++ [n]) h = dig ns h ++ [h / pr ns % n]
 | [],n,h=>by show [h % n] = [h / 1 % n]; rw [Nat.div_one]
 | m :: ns,n,h=>by
  show (h % m) :: dig (ns ++ [n]) (h / m) = (h % m) :: (dig ns (h / m) ++ [h / (m * pr ns) % n])
  rw [uJ,Nat.div_div_eq_div_mul]
def absI (x : Int) : Int:=if x < 0 then -x else x
def apI (xs ys : List Nat) : List Int:=(xs.zip ys).map fun p=>absI ((p.1 : Int) - (p.2 : Int))
theorem xA : ∀ {ns : List Nat} {o p : Nat},(apI (dig ns o) (dig ns p)).sum = ((apt ns o p : Nat) : Int)
 | [],_,_=>rfl
 | n :: ns,o,p=>by
  have ih:=xA (ns:=ns) (o:=o / n) (p:=p / n)
  show (absI (((o % n : Nat) : Int) - ((p % n : Nat) : Int)) :: apI (dig ns (o / n)) (dig ns (p / n))).sum = ((dst (o % n) (p % n) + apt ns (o / n) (p / n) : Nat) : Int)
  rw [List.sum_cons,ih]
  unfold absI dst
  generalize o % n = a
  generalize p % n = b
  split <;> omega
end NetM
namespace K12
open PySem L2 NetM
abbrev qF : Stmt:=top 47
abbrev qG : Stmt:=top 48
abbrev uK : Stmt:=top 49
abbrev qH : Stmt:=top 50
theorem aEW : (["_law_side"] : List Str).Nodup:=by decide +kernel
theorem aEX : (["_law_house", "_law_sides_here"] : List Str).Nodup:=by decide +kernel
theorem aCs : (["_law_x", "_law_y"] : List Str).Nodup:=by decide +kernel
section
variable {P : Program} {w : World} {K : W.Frag} {mg : Str→Option Value} {base : Heap}
theorem Sd.same {H H' : Hp} {x : V} {o : Option (List (Option Int))} (sd : Sd K H x o) (s : Same H H') (wk : ∀ {y : V} {u : Option Int},Wh K H y u→Wh K H' y u) (tk : ∀ {y : V} {t : Value},TyX K H y t→TyX K H' y t) : Sd K H' x o:=by
 cases sd with
 | tup h hl e=>exact .tup (s _ _ h) hl fun i x o a b=>wk (e i x o a b)
 | no ty h=>exact .no (tk ty) h
theorem aB2 : aM ["_law_thing_here"] ["_law_thing_here"] (aG qF):=⟨rfl,rfl,rfl,by decide +kernel,rfl,by decide +kernel,by decide +kernel⟩
def kE (K : W.Frag) : Sp:=fun vs H Q _=>∃ x o,vs = [x]∧Wh K H x o∧Q (.bl (aT o 2 8)) H
theorem aA4 {f : Addr} {fd : FuncData} (F : Fun K "_law_is_side" "_law_is_side" qF f fd) (B : Bl mg) : FnOk P w K mg base CX0 1 f fd ["_law_thing_here"] (kE K):=by
 refine F.ok aB2 (fun vs H Q E h=>?_) (fun cdv A outer s H vs Q E hr h=>?_)
 ·obtain ⟨x,o,rfl,_⟩:=h
  rfl
 ·obtain ⟨x,o,rfl,wh,k⟩:=h
  refine ⟨_,aI (aU (eK (aO dD (by rfl) B.isi PyProof.Rows.boot_isinstance (aA (pv 0) (aA (dR (v:=.ty "int") rfl B.int PyProof.Rows.boot_int rfl) aB)))
   (eK (zL (aO dD (by rfl) B.isi PyProof.Rows.boot_isinstance (aA (pv 0) (aA (dR (v:=.ty "bool") rfl B.bool PyProof.Rows.boot_bool rfl) aB)))) (gG (sJ jP jP aK (pv 0) aK))))),?_⟩
  cases wh with
  | int i =>
   refine ⟨_,rfl,_,_,_,.type "int",true,rfl,⟨rfl,mV⟩,.of (.int _),true,rfl,?_⟩
   refine ⟨_,rfl,_,_,_,.type "int",false,rfl,⟨rfl,lF⟩,.of (.int _),false,rfl,true,rfl,?_⟩
   refine ⟨_,rfl,_,_,rfl,rfl,_,rfl,?_⟩
   show if decide (2 ≤ i) = true then _ else _
   have k' : Q (.bl (decide (2 ≤ i) && decide (i ≤ 8))) H:=k
   by_cases h : 2 ≤ i
   ·rw [decide_eq_true h] at k' ⊢
    exact ⟨_,_,rfl,rfl,k'⟩
   ·rw [decide_eq_false h] at k' ⊢
    exact k'
  | no h =>
   obtain ⟨t,ty,h | ⟨h1,h2⟩⟩:=h
   ·exact ⟨_,rfl,_,_,_,t,false,rfl,⟨rfl,h⟩,ty,false,rfl,k⟩
   ·refine ⟨_,rfl,_,_,_,t,true,rfl,⟨rfl,h1⟩,ty,true,rfl,?_⟩
    exact ⟨_,rfl,_,_,_,t,true,rfl,⟨rfl,h2⟩,ty,true,rfl,false,rfl,k⟩
theorem mE : aM ["_law_sides_here", "_law_house", "_law_found", "_law_side"] ["_law_sides_here", "_law_house"] (aG uK):=⟨rfl,rfl,rfl,by decide +kernel,rfl,by decide +kernel,by decide +kernel⟩
def mH : Sp:=fun vs H Q _=>∃ (a : Addr) (ns : List Nat) (h : Nat),vs = [.ref a,.int h]∧H a = some (.tup (NV ns))∧ns.length ≤ 5∧(∀ x∈ns,2 ≤ x∧x ≤ 8)∧∀ (r : Addr) (H' : Hp),Same H H'→H r = none→H' r = some (.lst (NV (dig ns h)))→Q (.ref r) H'
theorem aB3 {f : Addr} {fd : FuncData} (F : Fun K "_law_place" "_law_place" uK f fd) : FnOk P w K mg base CX0 1 f fd ["_law_sides_here", "_law_house"] mH:=by
 refine F.ok mE (fun vs H Q E h=>?_) (fun cdv A outer s H vs Q E hr h=>?_)
 ·obtain ⟨a,ns,h,rfl,_⟩:=h
  rfl
 ·obtain ⟨a,ns,h,rfl,ha,hl,hn,k⟩:=h
  refine ⟨_,aE (aS (i:=2) mE.nd rfl (Or.inl rfl) (cT aB))
   (aE (cJ PassesOwn.never rfl (iZ (pv 0)) (aL (i:=3) mE.nd rfl (Or.inl rfl))
    (aE (cH (gB PySem.F.plainAttrs_list PySem.F.slot_list_append PySem.F.type_list_append dA (pv 2) (aA (aV eM (pv 1) (pv 3)) aB)))
    (aI (aS (i:=1) mE.nd rfl (Or.inl rfl) (aV gZ (pv 1) (pv 3))))))
   (aI (aU (pv 2)))),?_⟩
  refine ⟨by show 0 ≤ sizeLine; decide,fun D hD=>?_⟩
  have s0:=aF (o:=.lst []) hD
  refine ⟨_,rfl,a,rfl,⟨_,SqT.of (s0 _ _ ha)⟩,jA (K:=K) (xs:=NV ns) (fun i σ H2=>(∃ x,σ = [some (.ref a),some (.int ((h / pr (ns.take i) : Nat) : Int)),some (.ref D),x])∧Same H H2∧H2 D = some (.lst (NV (dig (ns.take i) h)))) ⟨⟨_,by rw [List.take_zero]; show _ = [_,some (V.int ((h / 1 : Nat) : Int)),_,_]; rw [Nat.div_one]; rfl⟩,s0,aD⟩ (fun i σ H2 _ z=>SqT.of (z.2.1 _ _ ha)) ?_ ?_⟩
  ·rintro i x σ H2 hx ⟨⟨x',rfl⟩,sm,hD2⟩
   obtain ⟨n,hv,rfl⟩:=eR hx
   have hi : i < ns.length:=(List.getElem?_eq_some_iff.mp hv).1
   have hnn:=hn n (List.mem_of_getElem? hv)
   have tk : ns.take (i + 1) = ns.take i ++ [n]:=by rw [List.take_add_one,hv]; rfl
   rw [tk,uJ,jK]
   have dl : (dig (ns.take i) h).length ≤ 5:=by rw [eJ,List.length_take]; omega
   refine ⟨_,rfl,.inl ⟨rfl,_,SqL.of hD2⟩,_,rfl,_,rfl,_,_,rfl,rfl,(by show (0 : Int) < (n : Int); omega),D,_,_,rfl,rfl,hD2,by rw [aN]; exact Nat.lt_of_le_of_lt dl (by decide),?_⟩
   refine ⟨_,rfl,_,rfl,_,_,rfl,rfl,⟨by omega,by omega⟩,⟨some (.int n),?_⟩,bP sm hD,?_⟩
   ·rw [← Nat.div_div_eq_div_mul]; rfl
   ·rw [aD,← dW]; rfl
  ·rintro σ H2 ⟨⟨x',rfl⟩,sm,hD2⟩
   rw [aN,List.take_length] at hD2
   exact ⟨_,rfl,k D H2 sm hD hD2⟩
theorem kF : aM ["_law_sides_here", "_law_many", "_law_side"] ["_law_sides_here"] (aG qG):=⟨rfl,rfl,rfl,by decide +kernel,rfl,by decide +kernel,by decide +kernel⟩
def nK (K : W.Frag) : Sp:=fun vs H Q _=>∃ (x : V) (o : Option (List (Option Int))),vs = [x]∧Sd K H x o∧(box o = none→∀ H',Same H H'→Q .non H')∧(∀ ns,box o = some ns→∀ H',Same H H'→Q (.int (pr ns)) H')
theorem aA5 {f : Addr} {fd : FuncData} (F : Fun K "_law_houses" "_law_houses" qG f fd) (B : Bl mg) (IS : Cal P w K mg base CX0 1 "_law_is_side" ["_law_thing_here"] (kE K)) : FnOk P w K mg base CX0 2 f fd ["_law_sides_here"] (nK K):=by
 refine F.ok kF (fun vs H Q E h=>?_) (fun cdv A outer s H vs Q E hr h=>?_)
 ·obtain ⟨x,o,rfl,_⟩:=h
  rfl
 ·obtain ⟨x,o,rfl,sd,k1,k2⟩:=h
  refine' ⟨_,aE (bR (PW.pt (gO (cS (cP (aO dD (by rfl) B.isi PyProof.Rows.boot_isinstance (aA (pv 0) (aA (dR (v:=.ty "tuple") rfl B.tup PyProof.Rows.boot_tuple rfl) aB)))))
    (gO (cS (aBp jP jP aK (aO bV (by rfl) B.len PySem.boot_len (aA (pv 0) aB)) aK))
    (hZ (cS (cP (aO (rD rfl) (by rfl) B.all PyProof.Rows.boot_all (aA ?c aB)))))))) (aI (aU dZ)) aZ)
   (aE (aS (i:=1) kF.nd rfl (Or.inl rfl) aK)
   (aE (cJ PassesOwn.never rfl (iZ (pv 0)) (aL (i:=2) kF.nd rfl (Or.inl rfl)) (aI (aS (i:=1) kF.nd rfl (Or.inl rfl) (aV sI (pv 1) (pv 2)))))
   (aI (aU (aBn (bA jP (pv 1) aK (bB _)) (pv 1) dZ))))),?_⟩
  case c =>
   refine' cC (g:=bE 0) (te:=gA (kE K) [] E0 (aY (tVar 0) tNil)) (NB:=["_law_side"]) (src:=[none]) (bU (by kernel_rfl)) rfl (iZ (pv 0)) ?g ?t ?e
   case g=>exact fun cl C s₃ H₃ fp=>aL (i:=0) aEW rfl (Or.inl rfl) (Or.inr rfl)
   case t=>exact fun cl C s₃ H₃ fp=>cF
   case e=>exact fun cl C s₃ H₃ fp=>aQ IS hr aR (aA (pv 0) aB)
  cases sd with
  | no ty h=>exact ⟨_,rfl,_,_,_,_,false,rfl,⟨rfl,h⟩,ty,_,rfl,iteT (k1 rfl H (Same.refl _))⟩
  | @tup p xs os hp hl ew =>
   refine ⟨_,rfl,_,_,_,.type "tuple",true,rfl,⟨rfl,pV⟩,.of (.tup hp),_,rfl,iteF ?_⟩
   refine ⟨_,rfl,p,xs,rfl,.inr (SqT.of hp),_,_,rfl,rfl,_,rfl,?_⟩
   have none_of : ¬ (1 ≤ os.length∧os.length ≤ 5)→box (some os) = none:=fun c=>fQ (by
    by_cases c1 : 1 ≤ os.length
    ·rw [decide_eq_true c1,decide_eq_false (show ¬ os.length ≤ 5 by omega)]; rfl
    ·rw [decide_eq_false c1]; rfl)
   have fail : ¬ (1 ≤ os.length∧os.length ≤ 5)→Q .non H:=fun c=>k1 (none_of c) H (Same.refl _)
   refine ite2 (fun c1=>?_) (fun c1=>?_)
   ·have c1' : 1 ≤ xs.length:=by have:=of_decide_eq_true c1; omega
    refine ⟨_,_,rfl,rfl,_,rfl,?_⟩
    by_cases c2 : xs.length ≤ 5
    ·rw [decide_eq_true (show ((xs.length : Nat) : Int) ≤ 5 by omega)]
     refine iteF ?_
     have hw : 1 ≤ os.length∧os.length ≤ 5:=by omega
     refine ⟨_,rfl,p,rfl,⟨_,SqT.of hp⟩,fun D hD=>?_⟩
     refine aB0 (xs:=xs) (fun i ys σ H2=>(∃ a,σ = [a])∧Same H H2∧H2 D = some (.lst ys)∧ys = ((os.take i).map fun o=>aT o 2 8).map V.bl) ⟨⟨_,rfl⟩,aF hD,aD,rfl⟩ (fun i ys σ H2 _ z=>SqT.of (z.2.1 _ _ hp)) ?_ ?_
     ·rintro i x ys σ H2 Kt Kf hx ⟨⟨a,rfl⟩,sm,hD2,rfl⟩ kt kf
      have hi : i < os.length:=by have:=(List.getElem?_eq_some_iff.mp hx).1; omega
      have ho : os[i]? = some os[i]:=List.getElem?_eq_getElem hi
      refine ⟨_,rfl,x,_,rfl,(ew i x _ hx ho).same sm,kt _ _ _ hD2 (by rw [List.length_map,List.length_map]; refine Nat.lt_of_le_of_lt (List.length_take_le _ _) (Nat.lt_of_lt_of_le (show i < 6 by omega) (by decide))) ⟨⟨_,rfl⟩,bP sm hD,aD,?_⟩⟩
      rw [List.take_add_one,ho,Option.toList_some,List.map_append,List.map_append]; rfl
     ·rintro ys σ H2 ⟨_,sm,hD2,rfl⟩
      rw [hl,List.take_length] at hD2
      refine ⟨D,_,rfl,SqL.of hD2,_,rfl,?_⟩
      have ea : ((os.map fun o=>aT o 2 8).all id) = os.all (fun o=>aT o 2 8):=by rw [List.all_map]; rfl
      rw [ea]
      cases ha : os.all (fun o=>aT o 2 8) with
      | false=>exact iteT (k1 (fQ (by rw [decide_eq_true hw.1,decide_eq_true hw.2,ha]; rfl)) H2 sm)
      | true =>
       refine iteF ?_
       obtain ⟨ex,hx⟩:=Sd.nums hp hl ew ha
       subst ex
       have hl5 : (nsOf os).length ≤ 5:=by unfold nsOf; rw [List.length_map]; exact hw.2
       refine ⟨_,rfl,p,rfl,⟨_,SqT.of (sm _ _ hp)⟩,jA (K:=K) (xs:=NV (nsOf os)) (fun i σ H3=>H3 = H2∧∃ x,σ = [some (.ref p),some (.int ((pr ((nsOf os).take i) : Nat) : Int)),x]) ⟨rfl,_,rfl⟩ (fun i σ H3 _ z=>by rw [z.1]; exact SqT.of (sm _ _ hp)) ?_ ?_⟩
       ·rintro i x σ H3 hx' ⟨rfl,y,rfl⟩
        obtain ⟨n,hv,rfl⟩:=eR hx'
        have hnn:=hx n (List.mem_of_getElem? hv)
        have tk : (nsOf os).take (i + 1) = (nsOf os).take i ++ [n]:=by rw [List.take_add_one,hv]; rfl
        rw [tk,jK]
        exact ⟨_,rfl,_,rfl,_,_,rfl,rfl,.inr ⟨by omega,by omega⟩,rfl,_,rfl⟩
       ·rintro σ H3 ⟨rfl,y,rfl⟩
        rw [aN,List.take_length]
        refine ⟨_,rfl,_,_,rfl,rfl,_,rfl,?_⟩
        refine ite2 (fun c=>?_) (fun c=>?_)
        ·have c' : ((pr (nsOf os) : Nat) : Int) ≤ 32:=by simpa using c
         exact ⟨_,rfl,k2 _ (uG (by rw [decide_eq_true hw.1,decide_eq_true hw.2,ha,decide_eq_true (by omega)]; rfl)) _ sm⟩
        ·have c' : ¬ ((pr (nsOf os) : Nat) : Int) ≤ 32:=by simpa using c
         exact k1 (fQ (by rw [decide_eq_true hw.1,decide_eq_true hw.2,ha,decide_eq_false (by omega)]; rfl)) _ sm
    ·rw [decide_eq_false (show ¬ ((xs.length : Nat) : Int) ≤ 5 by omega)]
     exact iteT (fail (by omega))
   ·have c1' : ¬ 1 ≤ xs.length:=fun z=>c1 (decide_eq_true (by omega))
    exact ⟨_,rfl,iteT (fail (by omega))⟩
end
end K12
namespace K12
open PySem L2 NetM
structure Bl3 (mg : Str→Option Value) : Prop where
 abs : mg "abs" = none
 sum : mg "sum" = none
 zip : mg "zip" = none
 repr : mg "repr" = none
theorem aA6 {ns : List Nat} {m o : Nat} : boxO ns (m + 1) o = boxO ns m o ++ (if apt ns o m = 1 then [((o : Int),(m : Int))] else []):=by
 unfold boxO
 rw [List.range_succ,List.filter_append,List.map_append,List.filter_cons]
 by_cases c : apt ns o m = 1
 ·rw [if_pos (decide_eq_true c),if_pos c]; rfl
 ·rw [if_neg (by simpa using c),if_neg c]; rfl
theorem uL {ns : List Nat} {m o : Nat} : (boxO ns m o).length ≤ m:=by unfold boxO; rw [List.length_map]; exact Nat.le_trans (List.length_filter_le _ _) (by simp)
theorem uM {ns : List Nat} {m : Nat} : ∀ {k : Nat},(boxL ns k m).length ≤ k * m
 | 0=>by simp [boxL]
 | k + 1=>by
  have ih:=uM (ns:=ns) (m:=m) (k:=k)
  unfold boxL at ih ⊢
  rw [eS,List.length_append,Nat.succ_mul]
  have:=uL (ns:=ns) (m:=m) (o:=k)
  omega
theorem aA7 {ns : List Nat} {m k : Nat} : boxL ns (k + 1) m = boxL ns k m ++ boxO ns m k:=by unfold boxL; rw [eS]
theorem uN : ∀ {xs ys : List Nat} {x y : Nat},xs.length = ys.length→apI (xs ++ [x]) (ys ++ [y]) = apI xs ys ++ [absI ((x : Int) - (y : Int))]
 | [],[],x,y,_=>rfl
 | x' :: xs,y' :: ys,x,y,h=>by
  have ih:=uN (xs:=xs) (ys:=ys) (x:=x) (y:=y) (by simpa using h)
  unfold apI at ih ⊢
  rw [List.cons_append,List.cons_append,List.zip_cons_cons,List.map_cons,ih,List.zip_cons_cons,List.map_cons,List.cons_append]
section
variable {P : Program} {w : World} {K : W.Frag} {mg : Str→Option Value} {base : Heap}
theorem fV : aM ["_law_sides_here", "_law_many", "_law_places", "_law_found", "_law_one", "_law_other", "_law_apart"] ["_law_sides_here", "_law_many"] (aG qH):=⟨rfl,rfl,rfl,by decide +kernel,rfl,by decide +kernel,by decide +kernel⟩
def nM : Sp:=fun vs H Q _=>∃ (a : Addr) (ns : List Nat),vs = [.ref a,.int (pr ns)]∧H a = some (.tup (NV ns))∧ns.length ≤ 5∧(∀ x∈ns,2 ≤ x∧x ≤ 8)∧pr ns ≤ 32∧∀ (r : Addr) (zs : Zs) (H' : Hp),Same H H'→H r = none→H' r = some (.lst (zr zs))→PO H' zs→zp zs = boxL ns (pr ns) (pr ns)→Q (.ref r) H'
theorem aA8 {f : Addr} {fd : FuncData} (F : Fun K "_law_pairs" "_law_pairs" qH f fd) (B : Bl mg) (B3 : Bl3 mg) (PL : Cal P w K mg base CX0 1 "_law_place" ["_law_sides_here", "_law_house"] mH) : FnOk P w K mg base CX0 2 f fd ["_law_sides_here", "_law_many"] nM:=by
 refine F.ok fV (fun vs H Q E h=>?_) (fun cdv A outer s H vs Q E hr h=>?_)
 ·obtain ⟨a,ns,rfl,_⟩:=h
  rfl
 ·obtain ⟨a,ns,rfl,ha,hl,hn,hm,k⟩:=h
  refine' ⟨_,aE (fE (i:=2) (g:=bE 0) (te:=gA mH [] E0 (aY (tVar 1) (aY (tVar 0) tNil))) (NB:=["_law_house", "_law_sides_here"]) (src:=[none,some 0]) (bU (by kernel_rfl)) rfl (cA rfl B.range (aA (pv 1) aB)) ?g1 ?t1 ?e1 fV.nd rfl rfl rfl)
   (aE (aS (i:=3) fV.nd rfl (Or.inl rfl) (cT aB))
   (aE (cJ PassesOwn.never rfl (cA rfl B.range (aA (pv 1) aB)) (aL (i:=4) fV.nd rfl (Or.inl rfl))
    (aI (cJ PassesOwn.never rfl (cA rfl B.range (aA (pv 1) aB)) (aL (i:=5) fV.nd rfl (Or.inl rfl))
     (aE (fE (i:=6) (g:=gTup K 2 (eE (bE 0) (eE (bE 1) gNil))) (te:=tCB (fun xs H Q=>∃ i,xs = [.int i]∧Q (.int (if i < 0 then -i else i)) H) (aY (tOp (rI0 fun i j=>.int (i - j)) (tVar 0) (tVar 1)) tNil)) (NB:=["_law_x", "_law_y"]) (src:=[none,none]) (bU (by kernel_rfl)) rfl (aDk rfl B3.zip (aA (bL aX (pv 2) (pv 4) (fun _ _=>rfl)) (aA (bL aX (pv 2) (pv 5) (fun _ _=>rfl)) aB))) ?g2 ?t2 ?e2 fV.nd rfl rfl rfl)
     (aI (bR (bA fD (aO (aBX rfl) (by rfl) B3.sum PyProof.Rows.boot_sum (aA (pv 6) aB)) aK (bB _))
      (aI (cH (gB PySem.F.plainAttrs_list PySem.F.slot_list_append PySem.F.type_list_append dA (pv 3) (aA (cW (aA (pv 4) (aA (pv 5) aB))) aB)))) aZ))))))
   (aI (aU (pv 3))))),?_⟩
  case g1=>exact fun cl C s₃ H₃ fp=>aL (i:=0) aEX rfl (Or.inl rfl) (Or.inr rfl)
  case t1=>exact fun cl C s₃ H₃ fp=>cF
  case e1=>exact fun cl C s₃ H₃ fp=>aQ PL hr aR (aA (pv 1) (aA (pv 0) aB))
  case g2=>exact fun cl C s₃ H₃ fp=>eL (n:=2) rfl (bQ (aL (i:=0) aCs rfl (Or.inl rfl) (Or.inr rfl)) (bQ (aL (i:=1) aCs rfl (Or.inl rfl) (Or.inr rfl)) dS))
  case t2=>exact fun cl C s₃ H₃ fp=>cF
  case e2=>exact fun cl C s₃ H₃ fp=>aO aBq (by rfl) B3.abs PyProof.Rows.boot_abs (aA (aV gI (pv 0) (pv 1)) aB)
  have kk:=k
  generalize hmm : pr ns = m at *
  refine ⟨_,rfl,(m : Int),rfl,by omega,by omega,fun WD hWD=>?_⟩
  refine cV (n:=m) (lo:=0) (fun i ys σ H3=>(∃ x,σ = [x,some (.ref a)])∧Same H H3∧∃ bs : List Addr,ys = bs.map V.ref∧(∀ b∈bs,b ≠ WD)∧Holds H3 bs i (fun h=>.lst (NV (dig ns h)))∧H3 WD = some (.lst ys)) ⟨⟨_,rfl⟩,aF hWD,[],rfl,(fun _ h=>nomatch h),Holds.nil,aD⟩ ?_ ?_
  ·rintro i ys σ H3 Kt Kf hi ⟨⟨x,rfl⟩,sm3,bs,rfl,hbF,hb,hW3⟩ kt kf
   refine ⟨_,rfl,_,rfl,a,ns,i,by rw [Int.zero_add]; rfl,sm3 _ _ ha,hl,hn,fun r H4 s4 hr4 hr4'=>?_⟩
   have hW4:=s4 _ _ hW3
   have nr : r ≠ WD:=by rintro rfl; rw [hW3] at hr4; cases hr4
   have keepD : ∀ c o ys',H4 c = some o→c ≠ WD→(upd H4 WD ys') c = some o:=fun c o ys' e h=>by rw [aH h]; exact e
   refine kt _ _ _ hW4 (by rw [List.length_map,hb.1]; exact Nat.lt_of_lt_of_le (show i < 33 by omega) (by decide)) ⟨⟨_,rfl⟩,bP (sm3.trans s4) hWD,bs ++ [r],by rw [List.map_append]; rfl,?_,?_,aD⟩
   ·intro c hc
    rcases List.mem_append.mp hc with z | z
    ·exact hbF c z
    ·rw [List.mem_singleton.mp z]; exact nr
   ·refine Holds.snoc (hb.mono fun j hj e=>keepD _ _ _ (s4 _ _ e) (hbF _ ?_)) (keepD _ _ _ hr4' nr)
    rw [List.getD_eq_getElem?_getD,List.getElem?_eq_getElem (by rw [hb.1]; exact hj)]; exact List.getElem_mem _
  ·rintro ys σ H3 ⟨_,sm3,bs,rfl,_,hb,hW3⟩
   have getW : ∀ i,i < m→(bs.map V.ref)[i]? = some (.ref (bs.getD i 0)):=fun i hi=>by
    rw [List.getElem?_map,List.getD_eq_getElem?_getD,List.getElem?_eq_getElem (by rw [hb.1]; exact hi)]; rfl
   refine ⟨by show 0 ≤ sizeLine; decide,fun D hD=>?_⟩
   have hDH : H D = none:=sm3.free hD
   refine ⟨_,rfl,m,rfl,by omega,by omega,eA (n:=m) (lo:=0) (fun i σ H4=>(∃ x4 x5 x6,σ = [some (.ref a),some (.int m),some (.ref WD),some (.ref D),x4,x5,x6])∧fK H3 D (boxL ns i m) H4) ⟨⟨_,_,_,rfl⟩,aF hD,[],aD,PO.nil,rfl⟩ ?_ ?_⟩
   ·rintro i σ H4 hi ⟨⟨x4,x5,x6,rfl⟩,P4⟩
    refine ⟨_,rfl,m,rfl,by omega,by omega,eA (n:=m) (lo:=0) (fun j σ H5=>(∃ x5 x6,σ = [some (.ref a),some (.int m),some (.ref WD),some (.ref D),some (.int (i : Int)),x5,x6])∧fK H3 D (boxL ns i m ++ boxO ns j i) H5) ⟨⟨_,_,by rw [Int.zero_add]; rfl⟩,by rw [show boxO ns 0 i = [] from rfl,List.append_nil]; exact P4⟩ ?_ ?_⟩
    ·rintro j σ H5 hj ⟨⟨x5,x6,rfl⟩,sm5,zs5,hz5,po5,ez5⟩
     rw [Int.zero_add]
     have gW:=sm5 _ _ hW3
     have gi:=sm5 _ _ (hb.2 i hi)
     have gj:=sm5 _ _ (hb.2 j hj)
     refine ⟨_,rfl,_,rfl,WD,_,_,_,rfl,rfl,SqL.of gW,aW (getW i hi),_,rfl,_,rfl,WD,_,_,_,rfl,rfl,SqL.of gW,aW (getW j hj),_,_,_,_,rfl,SqL.of gi,SqL.of gj,by rw [aN,aN,eJ,eJ],fun D6 hD6=>?_⟩
     refine aAX (xs:=NV (dig ns i)) (ys:=NV (dig ns j)) (by rw [aN,aN,eJ,eJ]) (fun k ys σ H6=>(∃ x y,σ = [x,y])∧Same H5 H6∧H6 D6 = some (.lst ys)∧ys = (apI ((dig ns i).take k) ((dig ns j).take k)).map V.int) ⟨⟨_,_,rfl⟩,aF hD6,aD,rfl⟩ (fun k ys σ H6 _ z=>⟨SqL.of (z.2.1 _ _ gi),SqL.of (z.2.1 _ _ gj)⟩) ?_ ?_
     ·rintro k x y pp ys σ H6 Kt Kf hx hy ⟨⟨x',y',rfl⟩,sm6,hD6',rfl⟩ hpp kt kf
      obtain ⟨u,hu,rfl⟩:=eR hx
      obtain ⟨v,hv,rfl⟩:=eR hy
      have hk1 : k < (dig ns i).length:=(List.getElem?_eq_some_iff.mp hu).1
      have hk2 : k < (dig ns j).length:=(List.getElem?_eq_some_iff.mp hv).1
      have sp:=aF (o:=.tup [.int (u : Int),.int (v : Int)]) hpp
      refine ⟨_,_,rfl,SqT.of aD,rfl,_,_,rfl,_,_,rfl,rfl,?_⟩
      refine ⟨_,rfl,_,rfl,_,_,rfl,rfl,_,rfl,kt _ _ _ (sp _ _ hD6') ?_ ⟨⟨_,_,rfl⟩,bP (sm6.trans sp) hD6,aD,?_⟩⟩
      ·rw [List.length_map]
       unfold apI
       rw [List.length_map,List.length_zip,List.length_take,List.length_take]
       rw [eJ] at hk1 hk2
       exact Nat.lt_of_le_of_lt (Nat.min_le_left _ _) (Nat.lt_of_le_of_lt (Nat.min_le_left _ _) (Nat.lt_of_lt_of_le (show k < 6 by omega) (by decide)))
      ·rw [List.take_add_one,hu,List.take_add_one,hv,Option.toList_some,Option.toList_some,uN (by rw [List.length_take,List.length_take]; omega),List.map_append]; rfl
     ·rintro ys σ H6 ⟨_,sm6,hD6',rfl⟩
      rw [aN,List.take_length,show (dig ns i).length = (dig ns j).length by rw [eJ,eJ],List.take_length] at hD6'
      refine ⟨_,rfl,D6,_,rfl,SqL.of hD6',rfl,_,rfl,?_⟩
      rw [xA,aA6]
      have z5:=sm6 _ _ hz5
      have len5 : zs5.length ≤ 2000:=by
       have e:=congrArg List.length ez5
       rw [bK,List.length_append] at e
       have z2:=uM (ns:=ns) (m:=m) (k:=i)
       have z3:=uL (ns:=ns) (m:=j) (o:=i)
       have z4 : i * m ≤ 32 * 32:=Nat.mul_le_mul (by omega) (by omega)
       omega
      by_cases c : apt ns i j = 1
      ·rw [if_pos c]
       refine aCr (by rw [c]; simp) ?_
       refine ⟨_,rfl,.inl ⟨rfl,_,SqL.of z5⟩,_,rfl,_,rfl,by show 2 ≤ sizeLine; decide,fun t ht=>?_⟩
       refine ⟨D,_,_,rfl,rfl,aF ht _ _ z5,by rw [dB]; exact Nat.lt_of_le_of_lt len5 (by decide),⟨_,_,rfl⟩,?_⟩
       have PA':=fK.add (u:=((i : Int),(j : Int))) hD (sm5.trans sm6) z5 (po5.same sm6) ez5 ht
       rw [← List.append_assoc]
       exact PA'
      ·rw [if_neg c,List.append_nil]
       refine oZ ?_ ⟨⟨_,_,rfl⟩,sm5.trans sm6,zs5,z5,po5.same sm6,ez5⟩
       exact decide_eq_false (fun z=>c (by injection z with z; exact Int.ofNat.inj z))
    ·rintro σ H5 ⟨⟨x5,x6,rfl⟩,P5⟩
     refine ⟨⟨_,_,_,rfl⟩,?_⟩
     rw [aA7]; exact P5
   ·rintro σ H4 ⟨⟨x4,x5,x6,rfl⟩,sm4,zs4,hz4,po4,ez4⟩
    exact ⟨_,rfl,kk D zs4 H4 (sm3.trans sm4) hDH hz4 po4 ez4⟩
end
end K12
namespace L2
open PySem PySem.Spec PyProof.Rows
section
variable {X : Cx}
def aEY : R2:=fun x y H Q=>∃ a b xs ys,x = .ref a∧y = .ref b∧H a = some (.tup xs)∧H b = some (.tup ys)∧xs.length + ys.length ≤ sizeLine∧∀ r H',Same H H'→H' r = some (.tup (xs ++ ys))→Q (.ref r) H'
theorem fX : OpR X (binaryOp .Add) aEY:=by
 intro pins s σ H x y v u Q I rx ry h
 obtain ⟨a,b,xs,ys,rfl,rfl,ha,hb,hz,q⟩:=h
 cases rx
 cases ry
 obtain ⟨its,r1,p1,_⟩:=I.tuple (SqT.of ha)
 obtain ⟨its2,r2,p2,_⟩:=I.tuple (SqT.of hb)
 obtain ⟨⟨cls,dd,data,sl⟩,ho,hc,n,hd⟩:=id p1
 obtain ⟨⟨cls2,dd2,data2,sl2⟩,ho2,hc2,n2,hd2⟩:=id p2
 simp only at hc hd hc2 hd2
 subst hc hd hc2 hd2
 have e : its.toArray ++ its2.toArray = (its ++ its2).toArray:=by simp
 by_cases hv : xs = []
 ·subst hv
  have hi : its = []:=r1.nil_iff.mpr rfl
  exact concat_meets ⟨_,ho,rfl⟩ ⟨_,ho2,rfl⟩ noFill_tuple_add seq_tuple_add PySem.F.slot_tuple_add PySem.F.entry_tuple_add (PySem.F.args_tuple_add_2 _ _)
   (tuple_addW0 a b its.toArray its2.toArray n n2 dd dd2 sl sl2 (by simp [hi])) ⟨ho,ho2,⟨.ref b,H,I,rfl,q b H (Same.refl _) hb⟩⟩
 ·have hi : its ≠ []:=fun z=>hv (r1.nil_iff.mp z)
  by_cases hw : ys = []
  ·subst hw
   have hj : its2 = []:=r2.nil_iff.mpr rfl
   exact concat_meets ⟨_,ho,rfl⟩ ⟨_,ho2,rfl⟩ noFill_tuple_add seq_tuple_add PySem.F.slot_tuple_add PySem.F.entry_tuple_add (PySem.F.args_tuple_add_2 _ _)
    (tuple_addW1 a b its.toArray its2.toArray n n2 dd dd2 sl sl2 (by simpa using hi) (by simp [hj])) ⟨ho,ho2,⟨.ref a,H,I,rfl,q a H (Same.refl _) (by rw [List.append_nil]; exact ha)⟩⟩
  ·have hj : its2 ≠ []:=fun z=>hw (r2.nil_iff.mp z)
   refine concat_meets ⟨_,ho,rfl⟩ ⟨_,ho2,rfl⟩ noFill_tuple_add seq_tuple_add PySem.F.slot_tuple_add PySem.F.entry_tuple_add (PySem.F.args_tuple_add_2 _ _)
    (tuple_addW2 a b its.toArray its2.toArray n n2 dd dd2 sl sl2 (by simpa using hi) (by simpa using hj) (by rw [List.size_toArray,List.size_toArray,← r1.length,← r2.length]; exact hz)) ⟨ho,ho2,?_⟩
   rw [e]
   have nf:=I.hok.fresh (Nat.le_refl s.heap.objs.size)
   refine ⟨.ref s.heap.objs.size,_,I.laid (t':=s.toks) (o:=.tup (xs ++ ys)) (fun b ob q=>Heap.get?_push_of_some _ q) (Nat.le_refl _) ?_,rfl,q _ _ (aF nf) aD⟩
   exact ⟨by rw [List.length_append]; exact hz,_,r1.append r2,IsTup.new _ _⟩
theorem mL {prog : Program} {w : World} {A : Around} {E : Value→Shared→Prop} {s : Shared} {t sl : Addr} {items : Array Value} {vl vu : Value} {lo hi : Option Int} {Q : Value→Shared→Prop} (ht : IsTup s.heap t items) (hs : s.heap.IsSliceOf sl vl vu .none) (pl : IsPart vl lo) (pu : IsPart vu hi)
  (hw : HT.sIx items.size 0 lo = 0∧HT.sIx items.size items.size hi = items.size) (h : Q (.ref t) s) : wpAny (model prog w) A (getItem (.ref t) (.ref sl)) Q E s:=by
 obtain ⟨os,hos,hcs,hds⟩:=id hs
 have hTs : s.TypeIs (.ref sl) "slice" := ⟨os,hos,hcs⟩
 unfold getItem
 try with_reducible refine wpAny_holding ?_
 first | refine wpAny_bind (wpAny_pure ?_) | skip
 refine wpAny_bind (wpAny_sequenceKey ht.typeIs (by decide) ?_)
 refine wpAny_bind (wpAny_callSpecial?_slot (name:=Str.ofString "__getitem__") ht.typeIs PyProof.Rows.slot_tuple_getitem
  (wpAny_call_entry PyProof.Rows.slot_tuple_getitem ht.typeIs entry_tuple_getitem ?_ (args_tuple_getitem _ _)))
 show wpAny _ _ (Builtin.Tuple.tupleItemsOf (.ref t) >>= _) _ _ s
 refine wpAny_bind (tupleItemsOf_ ht ?_)
 refine wpAny_bind (wpAny_typeOf hTs ?_)
 rw [if_pos (by decide)]
 refine wpAny_bind (HT.sliceApplied_gen hs pl pu ?_)
 have hyes : (((HT.sIx items.size 0 lo : Nat) : Int) == 0 && (1 : Int) == 1 && (HT.sIx items.size items.size hi - HT.sIx items.size 0 lo) == items.size) = true:=by
  rw [hw.1,hw.2]; simp
 show wpAny _ _ (if (((HT.sIx items.size 0 lo : Nat) : Int) == 0 && (1 : Int) == 1 && (HT.sIx items.size items.size hi - HT.sIx items.size 0 lo) == items.size) = true then _ else _) _ _ s
 rw [if_pos hyes]
 refine wpAny_bind (Q:=_) (m:=Builtin.Tuple.tupleIsExact (.ref t)) ?_
 unfold Builtin.Tuple.tupleIsExact
 refine wpAny_bind (wpAny_typeOf ht.typeIs ?_)
 refine wpAny_pure ?_
 rw [if_pos (by decide)]
 exact wpAny_bind (wpAny_rule (wpAny_pure ⟨_,rfl,wpAny_pure h⟩))
def rSlH : V→Option Int→Option Int→Hp→VK→Prop:=fun x lo hi H Q=>∃ a xs,x = .ref a∧H a = some (.tup xs)∧∀ r H',Same H H'→H' r = some (.tup (cutV xs lo hi))→Q (.ref r) H'
theorem aB4 {xs : List V} {lo hi : Option Int} (hw : HT.sIx xs.length 0 lo = 0∧HT.sIx xs.length xs.length hi = xs.length) : cutV xs lo hi = xs:=by
 unfold cutV
 rw [hw.1,hw.2,Nat.sub_zero,List.drop_zero,List.take_length]
theorem eZ : SlR X rSlH:=by
 intro pins s σ H x v vl vu lo hi sl Q I rx hs pl pu h
 obtain ⟨a,xs,rfl,hx,q⟩:=h
 by_cases hw : HT.sIx xs.length 0 lo = 0∧HT.sIx xs.length xs.length hi = xs.length
 ·cases rx
  obtain ⟨its,r,ht,hz⟩:=I.tuple (SqT.of hx)
  have hlen : its.toArray.size = xs.length:=by rw [List.size_toArray]; exact r.length.symm
  refine ⟨"tuple",_,PyProof.Rows.slot_tuple_getitem.lookup,ht.typeIs,?_⟩
  exact mL ht hs pl pu (by rw [hlen]; exact hw) ⟨.ref a,H,I,rfl,q a H (Same.refl _) (by rw [aB4 hw]; exact hx)⟩
 ·exact aDP pins s σ H _ v vl vu lo hi sl Q I rx hs pl pu ⟨a,xs,rfl,SqT.of hx,hw,fun p hp=>q p _ (aF hp) aD⟩
def rZ (X : Cx) (H : Hp) (p : Addr) (d : PyData) : Prop:=(∀ pins σ s,Inv X pins σ H s→∃ as,Reads s.heap (.ref p) d as∧(d.hasDict = true→sysModules ∉ as))∧d.showable = true∧d.depth ≤ 4∧d.shown.length ≤ sizeLine
def aCt (X : Cx) (H : Hp) (x : V) (d : PyData) : Prop:=(∃ p,x = .ref p∧rZ X H p d)∨(x = .non∧d = .none)∨(∃ b,x = .bl b∧d = .bool b)∨(∃ i,x = .int i∧d = .int i∧i.natAbs.log2 < 1920)∨(∃ y,x = .str y∧d = .str y∧(reprText y).length ≤ sizeLine)
theorem pB (hg : X.A.guards = some []) (hu : X.A.units + 8 < cLine) : cK X (.builtin "repr") (fun xs H Q=>∃ (x : V) (d : PyData),xs = [x]∧aCt X H x d∧Q (.str d.shown) H):=by
 intro pins s σ H xs us Q I r h
 obtain ⟨x,d,rfl,hx,q⟩:=h
 obtain ⟨u,rfl,ru⟩:=r.one
 rcases hx with ⟨p,rfl,hr,h1,h3,h4⟩ | ⟨rfl,rfl⟩ | ⟨b,rfl,rfl⟩ | ⟨i,rfl,rfl,hi⟩ | ⟨y,rfl,rfl,hy⟩
 ·obtain rfl : u = Value.ref p:=ru
  obtain ⟨as,rd,hs⟩:=hr pins σ s I
  exact repr_of_reads' rd h1 hs hg (by omega) (fun b o e=>e) (fun h' u tk hk=>⟨.str d.shown,H,I.kept (t':=tk) hk,⟨u,rfl⟩,q⟩) h4
 ·obtain rfl : u = Value.none:=ru
  exact PySem.P.repr_of_none ⟨.str _,H,I.tok _,⟨_,rfl⟩,q⟩
 ·obtain rfl : u = Value.bool b:=ru
  refine PySem.P.repr_of_bool ⟨.str _,H,I.tok _,⟨_,rfl⟩,?_⟩
  cases b <;> exact q
 ·obtain ⟨t,rfl⟩ : ∃ t,u = Value.int i t:=ru
  exact PySem.P.repr_of_int hi ⟨.str _,H,I.tok _,⟨_,rfl⟩,q⟩
 ·obtain ⟨t,rfl⟩ : ∃ t,u = Value.str y t:=ru
  exact PySem.P.repr_of_str ⟨.str _,H,I.tok _,⟨_,rfl⟩,q⟩ hy
theorem aA9 (hg : X.A.guards = some []) (hu : X.A.units + 8 < cLine) : cK X (.type "str") (fun xs H Q=>∃ (p : Addr) (d : PyData),xs = [.ref p]∧rZ X H p d∧Q (.str d.shown) H):=by
 intro pins s σ H xs us Q I r h
 obtain ⟨p,d,rfl,⟨hr,h1,h3,h4⟩,q⟩:=h
 obtain ⟨u,rfl,ru⟩:=r.one
 obtain rfl : u = Value.ref p:=ru
 obtain ⟨as,rd,hs⟩:=hr pins σ s I
 exact str_of_reads rd h1 hs hg (by omega) (fun b o e=>e) (fun h' u tk hk=>⟨.str d.shown,H,I.kept (t':=tk) hk,⟨u,rfl⟩,q⟩) h4
end
end L2
namespace K12
open PySem L2 NetM
abbrev uO : Stmt:=top 44
abbrev uP : Stmt:=top 43
theorem lL : (["_law_k", "_law_left", "_law_pot_here"] : List Str).Nodup:=by decide +kernel
theorem zD : (["_law_k", "_law_found"] : List Str).Nodup:=by decide +kernel
section
variable {P : Program} {w : World} {K : W.Frag} {mg : Str→Option Value} {base : Heap}
theorem uQ : ∀ {xs : List Nat} {k : Nat},(NV xs).eraseIdx k = NV (xs.eraseIdx k)
 | [],_=>rfl
 | x :: xs,0=>rfl
 | x :: xs,k + 1=>congrArg (V.int (x : Nat) :: ·) (uQ (xs:=xs) (k:=k))
theorem pC : ∀ {ls : List Nat} {k : Nat} (hk : k < ls.length),(ls[k] :: ls.eraseIdx k).Perm ls
 | x :: xs,0,_=>List.Perm.refl _
 | x :: xs,k + 1,h=>(List.Perm.swap x _ _).trans ((pC (ls:=xs) (k:=k) (by simpa using h)).cons x)
theorem aB5 {xs ls : List Nat} {k v : Nat} {r : List Nat} (p : (xs ++ ls).Perm r) (h : ls[k]? = some v) : (xs ++ [v] ++ ls.eraseIdx k).Perm r:=by
 refine List.Perm.trans ?_ p
 rw [List.append_assoc]
 refine List.Perm.append_left _ ?_
 obtain ⟨hk,e⟩:=List.getElem?_eq_some_iff.mp h
 subst e
 exact pC hk
theorem xB : aM ["_law_pot_here", "_law_many", "_law_left"] ["_law_pot_here", "_law_many"] (aG uO):=⟨rfl,rfl,rfl,by decide +kernel,rfl,by decide +kernel,by decide +kernel⟩
def qI : Sp:=fun vs H Q _=>∃ (p : Addr) (m : Nat),vs = [.ref p,.int m]∧m ≤ 32∧bD H p∧∀ (r : Addr) (xs : List Nat) (H' : Hp),aP p H H'→bD H' p→H r = none→H' r = some (.lst (NV xs))→xs.Perm (List.range m)→Q (.ref r) H'
theorem aB6 {f : Addr} {fd : FuncData} (F : Fun K "_law_order" "_law_order" uO f fd) (B : Bl mg) (D : Cal P w K mg base CX0 1 "_law_digit" ["_law_pot_here", "_law_many"] eI) : FnOk P w K mg base CX0 2 f fd ["_law_pot_here", "_law_many"] qI:=by
 refine F.ok xB (fun vs H Q E h=>?_) (fun cdv A outer s H vs Q E hr h=>?_)
 ·obtain ⟨p,m,rfl,_⟩:=h
  rfl
 ·obtain ⟨p,m,rfl,hm,hp,q⟩:=h
  refine' ⟨_,(aE (aS (i:=2) xB.nd rfl (Or.inr rfl) (dH (yF rfl) (by rfl) B.lst PyProof.Rows.boot_list (aA (dH vF (by rfl) B.range PyProof.Rows.boot_range (aA (pv 1) aB)) aB)))
   (aI (aU ?c1))),?_⟩
  case c1 =>
   refine' cC (g:=(bE 0)) (te:=(tBM K "list" zY (tVar 1) (aY (gA eI [] E0 (aY (tVar 2) (aY (tCB (fun xs H Q=>∃ p ys,xs = [V.ref p]∧(SqL K H p ys∨SqT K H p ys)∧Q (.int ys.length) H) (aY (tVar 1) tNil)) tNil))) tNil))) (NB:=["_law_k", "_law_left", "_law_pot_here"]) (src:=[none,some 2,some 0]) (bU (by kernel_rfl)) rfl (cA rfl B.range (aA (pv 1) aB)) ?g ?t ?e
   case g=>exact fun cl C s₃ H₃ fp=>(aL (i:=0) lL rfl (Or.inl rfl) (Or.inr rfl))
   case t=>exact fun cl C s₃ H₃ fp=>cF
   case e=>exact fun cl C s₃ H₃ fp=>(gB PySem.F.plainAttrs_list PySem.F.slot_list_pop PySem.F.type_list_pop aBw (pv 1) (aA (aQ D hr aR (aA (pv 2) (aA (aO bV (by rfl) B.len PySem.boot_len (aA (pv 1) aB)) aB))) aB))
  refine ⟨_,rfl,m,rfl,fun R hR=>⟨R,m,rfl,aD,by omega,fun L hL=>?_⟩⟩
  have s0 : Same H (upd (upd H R (.rng 0 m)) L (.lst (NV (List.range m)))):=(aF hR).trans (aF hL)
  have hLH : H L = none:=(aF hR).free hL
  refine ⟨_,rfl,m,rfl,by omega,by omega,fun D' hD=>?_⟩
  have hDH : H D' = none:=s0.free hD
  have npL : L ≠ p:=hp.ne hLH
  have npD : D' ≠ p:=hp.ne hDH
  have nLD : L ≠ D':=aJ aD hD
  refine cV (n:=m) (lo:=0) (fun i ys σ H2=>(∃ k,σ = [k,some (.ref L),some (.ref p)])∧aP p H H2∧bD H2 p∧∃ ls xs : List Nat,H2 L = some (.lst (NV ls))∧H2 D' = some (.lst ys)∧ys = NV xs∧(xs ++ ls).Perm (List.range m)∧xs.length = i)
   ⟨⟨_,rfl⟩,aP.of (s0.trans (aF hD)),(hp.same s0).same (aF hD),List.range m,[],by rw [aH nLD,aD],aD,rfl,List.Perm.refl _,rfl⟩ ?_ ?_
  ·rintro i ys σ H2 Kt Kf hi ⟨⟨k',rfl⟩,sm,hp2,ls,xs,hL2,hD2,rfl,pm,xl⟩ kt kf
   have ll : ls.length = m - i:=by have:=pm.length_eq; rw [List.length_append,List.length_range] at this; omega
   refine ⟨_,rfl,.inl ⟨rfl,_,SqL.of hL2⟩,_,rfl,_,rfl,L,_,rfl,.inl (SqL.of hL2),p,_,rfl,by rw [aN]; omega,by rw [aN]; omega,hp2,fun d H3 hd s3 hp3=>?_⟩
   rw [aN] at hd
   have hv : ls[d]? = some ls[d]:=List.getElem?_eq_getElem hd
   refine ⟨L,_,(d : Int),d,.int (ls[d] : Nat),rfl,rfl,s3 _ _ hL2 npL,by omega,by omega,(pK (jE (by rw [aN]; exact hd))).1,by unfold NV; rw [List.getElem?_map,hv]; rfl,?_⟩
   refine kt _ _ _ (by rw [aH nLD.symm]; exact s3 _ _ hD2 npD) (by rw [aN,xl]; exact Nat.lt_of_lt_of_le (show i < 33 by omega) (by decide)) ⟨⟨_,rfl⟩,fun b o e n=>?_,?_,ls.eraseIdx d,xs ++ [ls[d]],by rw [aH nLD,aD,uQ],aD,by rw [dW],aB5 pm hv,by rw [List.length_append,xl]; rfl⟩
   ·rw [aH (aJ e hDH),aH (aJ e hLH)]
    exact s3 _ _ (sm _ _ e n) n
   ·exact (hp3.put npL.symm).put npD.symm
  ·rintro ys σ H2 ⟨_,sm,hp2,ls,xs,hL2,hD2,rfl,pm,xl⟩
   have ll : ls = []:=by
    have:=pm.length_eq
    rw [List.length_append,List.length_range,xl] at this
    exact List.length_eq_zero_iff.mp (by omega)
   subst ll
   rw [List.append_nil] at pm
   exact q D' xs H2 sm hp2 hDH hD2 pm
def Box (ns : List Nat) : Prop:=1 ≤ ns.length∧ns.length ≤ 5∧(∀ x∈ns,2 ≤ x∧x ≤ 8)∧pr ns ≤ 32
theorem aDr {xs ys : List Nat} (p : xs.Perm ys) : pr xs = pr ys:=by
 induction p with
 | nil=>rfl
 | cons x _ ih=>show x * _ = x * _; rw [ih]
 | swap x y l=>show y * (x * pr l) = x * (y * pr l); rw [← Nat.mul_assoc,← Nat.mul_assoc,Nat.mul_comm y x]
 | trans _ _ a b=>rw [a,b]
theorem aB7 {fs xs : List Nat} {m : Nat} (h : fs.length = m) (p : xs.Perm (List.range m)) : (xs.map fun k=>fs.getD k 0).Perm fs:=by
 have e : (List.range m).map (fun k=>fs.getD k 0) = fs:=by
  subst h
  refine List.ext_getElem (by simp) fun i h1 h2=>?_
  rw [List.getElem_map,List.getElem_range,List.getD_eq_getElem?_getD,List.getElem?_eq_getElem h2]; rfl
 have:=p.map (fun k=>fs.getD k 0)
 rw [e] at this
 exact this
theorem fY : aM ["_law_pot_here", "_law_ways", "_law_room", "_law_found", "_law_k", "_law_top"] ["_law_pot_here"] (aG uP):=⟨rfl,rfl,rfl,by decide +kernel,rfl,by decide +kernel,by decide +kernel⟩
def qJ : Sp:=fun vs H Q _=>∃ (p : Addr),vs = [.ref p]∧bD H p∧∀ (r : Addr) (ns : List Nat) (H' : Hp),aP p H H'→bD H' p→H r = none→H' r = some (.tup (NV ns))→Box ns→Q (.ref r) H'
theorem aEZ {j : Nat} (h : j < 5) : ([V.int 1,.int 2,.int 4,.int 8,.int 16] : List V)[j]? = some (.int ((2 ^ j : Nat) : Int)):=by
 match j,h with
 | 0,_=>rfl
 | 1,_=>rfl
 | 2,_=>rfl
 | 3,_=>rfl
 | 4,_=>rfl
theorem aB8 {f : Addr} {fd : FuncData} (F : Fun K "_law_sides" "_law_sides" uP f fd) (B : Bl mg) (D : Cal P w K mg base CX0 1 "_law_digit" ["_law_pot_here", "_law_many"] eI) (O : Cal P w K mg base CX0 2 "_law_order" ["_law_pot_here", "_law_many"] qI) : FnOk P w K mg base CX0 3 f fd ["_law_pot_here"] qJ:=by
 refine F.ok fY (fun vs H Q E h=>?_) (fun cdv A outer s H vs Q E hr h=>?_)
 ·obtain ⟨p,rfl,_⟩:=h
  rfl
 ·obtain ⟨p,rfl,hp,q⟩:=h
  have h1 : Room 1 _:=hr.mono (by decide)
  refine' ⟨_,(aE (aS (i:=1) fY.nd rfl (Or.inl rfl) (aV cZ aK (aQ D h1 aR (aA (pv 0) (aA aK aB)))))
   (aE (aS (i:=2) fY.nd rfl (Or.inl rfl) aK)
   (aE (aS (i:=3) fY.nd rfl (Or.inr rfl) (cT aB))
   (aE (cJ PassesOwn.never rfl (cA rfl B.range (aA (pv 1) aB)) (aL (i:=4) fY.nd rfl (Or.inl rfl))
    (aE (aS (i:=5) fY.nd rfl (Or.inl rfl) (aO (qR rfl) (by rfl) B.min PyProof.Rows.boot_min (aA aK (aA (aV gZ (pv 2) (bL aX (cT (aA aK (aA aK (aA aK (aA aK (aA aK aB)))))) (aV gI (aV gI (pv 1) aK) (pv 4)) (fun _ _=>rfl))) aB))))
    (aE (cH (gB PySem.F.plainAttrs_list PySem.F.slot_list_append PySem.F.type_list_append dA (pv 3) (aA (aV cZ aK (aQ D h1 aR (aA (pv 0) (aA (aV gI (pv 5) aK) aB)))) aB)))
    (aI (aS (i:=2) fY.nd rfl (Or.inl rfl) (aV gZ (pv 2) (bL aX (pv 3) (aEv aDM aK) (fun _ _=>rfl))))))))
   (aI (aU (dH rJ (by rfl) B.tup PyProof.Rows.boot_tuple (aA ?c1 aB)))))))),?_⟩
  case c1 =>
   refine' cC (g:=(bE 0)) (te:=(tOp (rIxL K) (tVar 1) (tVar 0))) (NB:=["_law_k", "_law_found"]) (src:=[none,some 3]) (bU (by kernel_rfl)) rfl (bX (aQ O hr aR (aA (pv 0) (aA (pv 1) aB)))) ?g ?t ?e
   case g=>exact fun cl C s₃ H₃ fp=>(aL (i:=0) zD rfl (Or.inl rfl) (Or.inr rfl))
   case t=>exact fun cl C s₃ H₃ fp=>cF
   case e=>exact fun cl C s₃ H₃ fp=>(bL aX (pv 1) (pv 0) (fun _ _=>rfl))
  refine ⟨_,rfl,p,5,rfl,by decide,by decide,hp,fun d H1 hd s1 hp1=>⟨_,_,rfl,rfl,?_⟩⟩
  obtain ⟨W,hW,w1,w5⟩ : ∃ W : Nat,(1 + (d : Int)) = (W : Int)∧1 ≤ W∧W ≤ 5:=⟨1 + d,by omega,by omega,by omega⟩
  change bE 1 (V.int (1 + (d : Int))) _ H1 _
  rw [hW]
  refine ⟨by show 0 ≤ sizeLine; decide,fun Fd hF=>?_⟩
  have hFH : H Fd = none:=s1.free hp1.full hF
  have nFp : Fd ≠ p:=hp1.ne hF
  refine ⟨_,rfl,_,rfl,by omega,by omega,eA (n:=W) (lo:=0) (fun k σ H2=>∃ (rm : Nat) (fs : List Nat) (x4 x5 : Option V),σ = [some (.ref p),some (.int W),some (.int rm),some (.ref Fd),x4,x5]∧aP p H H2∧bD H2 p∧H2 Fd = some (.lst (NV fs))∧fs.length = k∧(∀ x∈fs,2 ≤ x∧x ≤ 8)∧pr fs * rm ≤ 32∧2 ^ (W - k) ≤ rm∧rm ≤ 32) ?_ ?_ ?_⟩
  ·refine ⟨32,[],_,_,rfl,s1.trans (aP.of (aF hF)),hp1.same (aF hF),aD,rfl,(fun x hx=>nomatch hx),by decide,?_,by decide⟩
   exact Nat.pow_le_pow_right (by decide) (show W - 0 ≤ 5 by omega)
  ·rintro k σ H2 hk ⟨rm,fs,x4,x5,rfl,s2,p2,hF2,fl,fb,fp,rl,r32⟩
   rw [Int.zero_add]
   refine ⟨_,rfl,by show 5 ≤ sizeLine; decide,fun L hL=>⟨_,rfl,_,_,rfl,rfl,_,rfl,_,_,rfl,rfl,L,_,_,.int ((2 ^ (W - 1 - k) : Nat) : Int),rfl,rfl,SqL.of aD,?_,_,_,rfl,rfl,?_,8,_,rfl,?_⟩⟩
   ·rw [show ((W : Int) - 1 - (k : Int)) = ((W - 1 - k : Nat) : Int) by omega]
    exact aW (aEZ (by omega))
   ·have : 1 ≤ 2 ^ (W - 1 - k):=Nat.one_le_two_pow
    have h2 : 2 ^ (W - 1 - k) ≤ 2 ^ 4:=Nat.pow_le_pow_right (by decide) (by omega)
    exact ⟨by omega,by omega⟩
   have e2 : 2 ^ (W - k) = 2 ^ (W - 1 - k) * 2:=by rw [← Nat.pow_succ]; congr 1; omega
   have g1 : 1 ≤ 2 ^ (W - 1 - k):=Nat.one_le_two_pow
   generalize hg : 2 ^ (W - 1 - k) = g at *
   obtain ⟨tp,htp,t2,t8,tg⟩ : ∃ tp : Nat,(if (rm : Int) / (g : Int) < 8 then (rm : Int) / (g : Int) else 8) = (tp : Int)∧2 ≤ tp∧tp ≤ 8∧tp * g ≤ rm:=by
    have d1 : 2 ≤ rm / g:=(Nat.le_div_iff_mul_le (by omega)).mpr (by omega)
    have d2 : rm / g * g ≤ rm:=Nat.div_mul_le_self _ _
    have e : (rm : Int) / (g : Int) = ((rm / g : Nat) : Int):=rfl
    rw [e]
    by_cases c : rm / g < 8
    ·exact ⟨rm / g,by rw [if_pos (by omega)],d1,by omega,d2⟩
    ·refine ⟨8,by rw [if_neg (by omega)]; rfl,by omega,by omega,Nat.le_trans (Nat.mul_le_mul_right g (by omega : 8 ≤ rm / g)) d2⟩
   rw [htp]
   have sL:=aF (o:=.lst [V.int 1,.int 2,.int 4,.int 8,.int 16]) hL
   have hLp:=p2.same sL
   have hF3:=sL _ _ hF2
   have s3 : aP p H _:=s2.trans (aP.of sL)
   generalize upd H2 L _ = H3 at *
   refine ⟨_,rfl,.inl ⟨rfl,_,SqL.of hF3⟩,_,rfl,_,rfl,_,_,rfl,rfl,p,tp - 1,by show [V.ref p,V.int ((tp : Int) - 1)] = _; rw [show ((tp : Int) - 1) = ((tp - 1 : Nat) : Int) by omega],by omega,by omega,hLp,fun e H4 he s4 hp4=>?_⟩
   have hF4:=s4 _ _ hF3 nFp
   refine ⟨_,_,rfl,rfl,Fd,_,.int ((2 + e : Nat) : Int),rfl,by show [V.int (2 + (e : Int))] = _; rw [show (2 + (e : Int)) = ((2 + e : Nat) : Int) by omega],hF4,by rw [aN,fl]; exact Nat.lt_of_lt_of_le (show k < 6 by omega) (by decide),?_⟩
   have hF5 : (upd H4 Fd (.lst (NV fs ++ [.int ((2 + e : Nat) : Int)]))) Fd = some (.lst (NV (fs ++ [2 + e]))):=by rw [aD,dW]
   have s5 : aP p H (upd H4 Fd (.lst (NV fs ++ [.int ((2 + e : Nat) : Int)]))):=fun b o eq n=>by rw [aH (aJ eq hFH)]; exact s4 _ _ (s3 _ _ eq n) n
   have hp5 : bD (upd H4 Fd (.lst (NV fs ++ [.int ((2 + e : Nat) : Int)]))) p:=hp4.put nFp.symm
   generalize upd H4 Fd _ = H5 at *
   have fe : 2 + e ≤ tp:=by omega
   have at1 : atI (NV (fs ++ [2 + e])) (-1) = some (.int ((2 + e : Nat) : Int)):=by
    unfold atI ixN
    rw [if_neg (by decide),if_pos (by rw [aN,List.length_append,List.length_singleton]; omega),Option.bind_some]
    unfold NV
    rw [List.getElem?_map,show ((-1 : Int) + ((((fs ++ [2 + e]).map fun (x : Nat)=>V.int x).length : Nat) : Int)).toNat = fs.length by rw [List.length_map,List.length_append,List.length_singleton]; omega]
    rw [List.getElem?_append_right (Nat.le_refl _),Nat.sub_self]; rfl
   refine ⟨_,rfl,_,rfl,_,rfl,Fd,_,_,_,rfl,rfl,SqL.of hF5,at1,_,_,rfl,rfl,⟨by omega,by omega⟩,rm / (2 + e),fs ++ [2 + e],_,_,rfl,s5,hp5,hF5,by rw [List.length_append,fl]; rfl,?_,?_,?_,?_⟩
   ·intro x hx
    rcases List.mem_append.mp hx with z | z
    ·exact fb x z
    ·rw [List.mem_singleton.mp z]; omega
   ·rw [jK,Nat.mul_assoc]
    exact Nat.le_trans (Nat.mul_le_mul_left _ (by rw [Nat.mul_comm]; exact Nat.div_mul_le_self _ _)) fp
   ·rw [show W - (k + 1) = W - 1 - k by omega,hg]
    refine (Nat.le_div_iff_mul_le (by omega)).mpr ?_
    rw [Nat.mul_comm]
    exact Nat.le_trans (Nat.mul_le_mul_right g fe) tg
   ·exact Nat.le_trans (Nat.div_le_self _ _) r32
  ·rintro σ H2 ⟨rm,fs,x4,x5,rfl,s2,p2,hF2,fl,fb,fp,rl,r32⟩
   refine ⟨_,rfl,_,rfl,p,W,rfl,by omega,p2,fun r xs H3 s3 p3 hr3 hr3' pm=>?_⟩
   have hF3:=s3 _ _ hF2 nFp
   refine ⟨_,rfl,⟨_,SqL.of hr3'⟩,fun D' hD'=>?_⟩
   have s03 : aP p H H3:=s2.trans s3
   have hDH : H D' = none:=s03.free p3.full hD'
   have xl : xs.length = W:=by have:=pm.length_eq; rw [List.length_range] at this; exact this
   refine cQ (xs:=NV xs) (fun i ys σ H4=>(∃ x,σ = [x,some (.ref Fd)])∧Same H3 H4∧H4 D' = some (.lst ys)∧ys = NV ((xs.take i).map fun k=>fs.getD k 0)) ⟨⟨_,rfl⟩,aF hD',aD,rfl⟩ (fun i ys σ H4 _ z=>SqL.of (z.2.1 _ _ hr3')) ?_ ?_
   ·rintro i x ys σ H4 Kt Kf hx ⟨⟨x',rfl⟩,s4,hD4,rfl⟩ kt kf
    obtain ⟨v,hv,rfl⟩:=eR hx
    have hi : i < xs.length:=(List.getElem?_eq_some_iff.mp hv).1
    have hvW : v < W:=List.mem_range.mp (pm.mem_iff.mp (List.mem_of_getElem? hv))
    refine ⟨_,rfl,_,rfl,Fd,_,_,.int ((fs.getD v 0 : Nat) : Int),rfl,rfl,SqL.of (s4 _ _ hF3),aW ?_,kt _ _ _ hD4 ?_ ⟨⟨_,rfl⟩,bP s4 hD',aD,?_⟩⟩
    ·unfold NV
     rw [List.getElem?_map,List.getD_eq_getElem?_getD,List.getElem?_eq_getElem (by omega)]; rfl
    ·rw [aN,List.length_map]
     exact Nat.lt_of_le_of_lt (List.length_take_le _ _) (Nat.lt_of_lt_of_le (show i < 6 by omega) (by decide))
    ·rw [List.take_add_one,hv,Option.toList_some,List.map_append,dW]; rfl
   ·rintro ys σ H4 ⟨_,s4,hD4,rfl⟩
    rw [aN,List.take_length] at hD4
    have pm2:=aB7 fl pm
    refine ⟨D',_,rfl,.inl ⟨SqL.of hD4,fun l hl=>?_⟩⟩
    have s05:=s03.trans (aP.of (s4.trans (aF (o:=.tup (NV (xs.map fun k=>fs.getD k 0))) hl)))
    refine q l _ _ s05 ((p3.same s4).same (aF hl)) ((s03.trans (aP.of s4)).free (p3.same s4).full hl) aD ⟨by rw [List.length_map]; omega,by rw [List.length_map]; omega,fun x hx=>fb x (pm2.mem_iff.mp hx),?_⟩
    rw [aDr pm2]
    refine Nat.le_trans ?_ fp
    exact Nat.le_mul_of_pos_right _ (Nat.lt_of_lt_of_le (Nat.two_pow_pos _) rl)
end
end K12
namespace L2
open PySem PySem.Spec PyProof.Rows
inductive F2 (R : V→PyData→Prop) : List V→List PyData→Prop where
 | nil : F2 R [] []
 | cons {x : V} {d : PyData} {xs : List V} {ds : List PyData} (h : R x d) (hs : F2 R xs ds) : F2 R (x :: xs) (d :: ds)
inductive Atm (b : Bool) (H : Hp) : V→PyData→Prop where
 | non : Atm b H .non .none
 | bl (c : Bool) : Atm b H (.bl c) (.bool c)
 | int (i : Int) (h : -1 ≤ i∧i ≤ 33) : Atm b H (.int i) (.int i)
 | big : Atm b H (.int (10 ^ 50)) (.int (10 ^ 50))
 | s2 : Atm b H (.str "2") (.str "2")
 | s0 : Atm b H (.str "") (.str "")
 | tup {a : Addr} (h : H a = some (.tup [.int 2])) : Atm b H (.ref a) (.tuple [.int 2])
 | lst {a : Addr} (e : b = false) (h : H a = some (.lst [.int 2])) : Atm b H (.ref a) (.list [.int 2])
 | dct {a : Addr} (e : b = true) (h : H a = some (.dK [])) : Atm b H (.ref a) (.dict [])
theorem Atm.keep {b : Bool} {H H' : Hp} {x : V} {d : PyData} (h : Atm b H x d) (k : ∀ a o,H a = some o→(o = .tup [.int 2]∨o = .lst [.int 2]∨o = .dK [])→H' a = some o) : Atm b H' x d:=by
 cases h with
 | non=>exact .non
 | bl c=>exact .bl c
 | int i h=>exact .int i h
 | big=>exact .big
 | s2=>exact .s2
 | s0=>exact .s0
 | tup h=>exact .tup (k _ _ h (.inl rfl))
 | lst e h=>exact .lst e (k _ _ h (.inr (.inl rfl)))
 | dct e h=>exact .dct e (k _ _ h (.inr (.inr rfl)))
theorem Atm.facts {b : Bool} {H : Hp} {x : V} {d : PyData} (h : Atm b H x d) : d.showable = true∧d.depth ≤ 1∧d.leavesShort 60 = true∧d.weight ≤ 200∧(b = false→d.hasDict = false):=by
 cases h with
 | non=>exact ⟨by decide +kernel,by decide +kernel,by decide +kernel,by decide +kernel,fun _=>rfl⟩
 | bl c=>cases c <;> exact ⟨by decide +kernel,by decide +kernel,by decide +kernel,by decide +kernel,fun _=>rfl⟩
 | int i h =>
  have all : ∀ n : Nat,n < 35→(PyData.int ((n : Int) - 1)).showable = true∧(PyData.int ((n : Int) - 1)).depth ≤ 1∧(PyData.int ((n : Int) - 1)).leavesShort 60 = true∧(PyData.int ((n : Int) - 1)).weight ≤ 200:=by decide +kernel
  obtain ⟨n,rfl,hn⟩ : ∃ n : Nat,i = (n : Int) - 1∧n < 35:=⟨(i + 1).toNat,by omega,by omega⟩
  obtain ⟨a1,a2,a3,a4⟩:=all n hn
  exact ⟨a1,a2,a3,a4,fun _=>rfl⟩
 | big=>exact ⟨by decide +kernel,by decide +kernel,by decide +kernel,by decide +kernel,fun _=>rfl⟩
 | s2=>exact ⟨by decide +kernel,by decide +kernel,by decide +kernel,by decide +kernel,fun _=>rfl⟩
 | s0=>exact ⟨by decide +kernel,by decide +kernel,by decide +kernel,by decide +kernel,fun _=>rfl⟩
 | tup h=>exact ⟨by decide +kernel,by decide +kernel,by decide +kernel,by decide +kernel,fun _=>rfl⟩
 | lst e h=>exact ⟨by decide +kernel,by decide +kernel,by decide +kernel,by decide +kernel,fun _=>rfl⟩
 | dct e h=>exact ⟨by decide +kernel,by decide +kernel,by decide +kernel,by decide +kernel,fun z=>by rw [e] at z; cases z⟩
theorem uR {h : Heap} {i : Int} {u : Value} (r : RelV (.int i) u) : Reads h u (.int i) []:=by
 obtain ⟨t,rfl⟩ : ∃ t,u = Value.int i t:=r
 exact .int i t
theorem xC {X : Cx} {pins : List (Addr × Obj)} {σ : St} {H : Hp} {s : Shared} {a : Addr} {xs : List V} {ds : List PyData} {Pq : List Addr→Prop} (I : Inv X pins σ H s) (h : H a = some (.tup xs)) (hd : ∀ us,Vals xs us→∃ bs,ReadsAll s.heap us ds bs∧Pq bs) : ∃ bs,Reads s.heap (.ref a) (.tuple ds) bs∧Pq bs:=by
 obtain ⟨its,r,⟨o,ho,hc,n,hdat⟩,_⟩:=I.tuple (SqT.of h)
 obtain ⟨bs,hb,q⟩:=hd its r
 exact ⟨_,.tuple ho hc hdat (by simpa using hb),q⟩
theorem Atm.reads {b : Bool} {X : Cx} {pins : List (Addr × Obj)} {σ : St} {H : Hp} {s : Shared} {x : V} {d : PyData} {u : Value} (h : Atm b H x d) (I : Inv X pins σ H s) (r : RelV x u) : ∃ as,Reads s.heap u d as∧(b = true→sysModules ∉ as):=by
 have one : ∀ us,Vals [V.int 2] us→ReadsAll s.heap us [.int 2] ([] ++ []):=fun us r=>by
  obtain ⟨u,rfl,ru⟩:=r.one
  exact .cons (uR ru) .nil
 cases h with
 | non=>obtain rfl : u = Value.none:=r; exact ⟨_,.none,fun _ h=>nomatch h⟩
 | bl c=>obtain rfl : u = Value.bool c:=r; exact ⟨_,.bool c,fun _ h=>nomatch h⟩
 | int i h=>exact ⟨_,uR r,fun _ h=>nomatch h⟩
 | big=>exact ⟨_,uR r,fun _ h=>nomatch h⟩
 | s2=>obtain ⟨t,rfl⟩ : ∃ t,u = Value.str "2" t:=r; exact ⟨_,.str _ t,fun _ h=>nomatch h⟩
 | s0=>obtain ⟨t,rfl⟩ : ∃ t,u = Value.str "" t:=r; exact ⟨_,.str _ t,fun _ h=>nomatch h⟩
 | @tup a h =>
  obtain rfl : u = Value.ref a:=r
  obtain ⟨bs,q,e⟩:=xC (Pq:=fun bs=>bs = []) I h fun us r=>⟨_,one us r,rfl⟩
  exact ⟨bs,q,fun _ h=>by rw [e] at h; exact nomatch h⟩
 | @lst a e h =>
  obtain rfl : u = Value.ref a:=r
  obtain ⟨its,r,⟨o,n,ho,hc,_,hdat⟩,_⟩:=I.list (SqL.of h)
  exact ⟨_,.list ho hc hdat (by simpa using one its r),fun z=>by rw [e] at z; cases z⟩
 | @dct a e h =>
  obtain rfl : u = Value.ref a:=r
  obtain ⟨_,hs,kvs,hk,o,es,ep,ho,⟨hc,_⟩,hdat,_,hp,_⟩:=I.hok a _ h
  cases hk
  have he : es.toList = []:=by cases hp' : es.toList with
   | nil=>rfl
   | cons x y=>rw [hp'] at hp; cases hp
  refine ⟨_,.dict (kvs:=[]) ho hc hdat (by rw [he]; exact .nil) (by rw [he]; exact .nil),fun _ z=>?_⟩
  have z' : sysModules = a:=by simpa using z
  rw [z'] at hs
  simp at hs
theorem kG {b : Bool} {X : Cx} {pins : List (Addr × Obj)} {σ : St} {H : Hp} {s : Shared} (I : Inv X pins σ H s) : ∀ {xs : List V} {ds : List PyData} {us : List Value},F2 (Atm b H) xs ds→Vals xs us→∃ as,ReadsAll s.heap us ds as∧(b = true→sysModules ∉ as)
 | [],[],_,.nil,.nil=>⟨_,.nil,fun _ h=>nomatch h⟩
 | x :: xs,d :: ds,_,.cons h hs,.cons r rs=>by
  obtain ⟨as,q1,n1⟩:=h.reads I r
  obtain ⟨bs,q2,n2⟩:=kG I hs rs
  exact ⟨_,.cons q1 q2,fun z h=>(List.mem_append.mp h).elim (n1 z) (n2 z)⟩
theorem gU {b : Bool} {H : Hp} : ∀ {xs : List V} {ds : List PyData},F2 (Atm b H) xs ds→PyData.showableAll ds = true∧PyData.depthAll ds ≤ 1∧PyData.leavesShortAll 60 ds = true∧PyData.weightAll ds ≤ 201 * xs.length∧(b = false→PyData.hasDictAll ds = false)
 | [],[],.nil=>⟨rfl,by decide,rfl,by decide,fun _=>rfl⟩
 | x :: xs,d :: ds,.cons h hs=>by
  obtain ⟨a1,a2,a3,a4,a5⟩:=h.facts
  obtain ⟨b1,b2,b3,b4,b5⟩:=gU hs
  refine ⟨?_,?_,?_,?_,fun z=>?_⟩
  ·unfold PyData.showableAll; rw [a1,b1]; rfl
  ·unfold PyData.depthAll; omega
  ·unfold PyData.leavesShortAll; rw [a3,b3]; rfl
  ·unfold PyData.weightAll; rw [List.length_cons]; omega
  ·unfold PyData.hasDictAll; rw [a5 z,b5 z]; rfl
theorem aCu {b : Bool} {H : Hp} : ∀ {xs : List V},(∀ x∈xs,∃ d,Atm b H x d)→∃ ds,F2 (Atm b H) xs ds
 | [],_=>⟨[],.nil⟩
 | x :: xs,h=>by
  obtain ⟨d,hd⟩:=h x List.mem_cons_self
  obtain ⟨ds,hs⟩:=aCu (xs:=xs) fun y hy=>h y (List.mem_cons_of_mem _ hy)
  exact ⟨d :: ds,.cons hd hs⟩
theorem qK {d : PyData} (h : d.leavesShort 60 = true) (hw : d.weight ≤ 2000) : d.shown.length ≤ sizeLine:=by
 have:=PyData.shown_le 60 (by decide) d h
 refine Nat.le_trans this (Nat.le_trans (show (60 + 2) * d.weight + 60 ≤ 130000 by omega) (by decide))
inductive Wt (H : Hp) : V→PyData→Prop where
 | one {x : V} {d : PyData} (b : Bool) (h : Atm b H x d) : Wt H x d
 | tup {a : Addr} {xs : List V} {ds : List PyData} (b : Bool) (h : H a = some (.tup xs)) (hl : xs.length ≤ 6) (hs : F2 (Atm b H) xs ds) : Wt H (.ref a) (.tuple ds)
 | lst {a : Addr} {xs : List V} {ds : List PyData} (h : H a = some (.lst xs)) (hl : xs.length ≤ 6) (hs : F2 (Atm false H) xs ds) : Wt H (.ref a) (.list ds)
 | str {z : Str} (h : (reprText z).length ≤ sizeLine) : Wt H (.str z) (.str z)
theorem qL {b : Bool} {H H' : Hp} (k : ∀ a o,H a = some o→(o = .tup [.int 2]∨o = .lst [.int 2]∨o = .dK [])→H' a = some o) : ∀ {xs : List V} {ds : List PyData},F2 (Atm b H) xs ds→F2 (Atm b H') xs ds
 | [],[],.nil=>.nil
 | x :: xs,d :: ds,.cons h hs=>.cons (h.keep k) (qL k hs)
theorem Wt.repr {X : Cx} {H : Hp} {x : V} {d : PyData} (h : Wt H x d) : aCt X H x d:=by
 cases h with
 | one b h =>
  obtain ⟨a1,a2,a3,a4,a5⟩:=h.facts
  have sh : ∀ p,x = .ref p→rZ X H p d:=fun p e=>by
   subst e
   refine ⟨fun pins σ s I=>?_,a1,by omega,qK a3 (by omega)⟩
   obtain ⟨as,q,n⟩:=h.reads I (u:=.ref p) rfl
   refine ⟨as,q,fun z=>n ?_⟩
   cases b with
   | true=>rfl
   | false=>rw [a5 rfl] at z; cases z
  cases h with
  | non=>exact .inr (.inl ⟨rfl,rfl⟩)
  | bl c=>exact .inr (.inr (.inl ⟨c,rfl,rfl⟩))
  | int i h =>
   refine .inr (.inr (.inr (.inl ⟨i,rfl,rfl,?_⟩)))
   have e : (PyData.int i).showable = decide (i.natAbs.log2 < 1920):=rfl
   rw [e] at a1
   exact of_decide_eq_true a1
  | big=>exact .inr (.inr (.inr (.inl ⟨_,rfl,rfl,of_decide_eq_true (show decide ((10 ^ 50 : Int).natAbs.log2 < 1920) = true from a1)⟩)))
  | s2=>exact .inr (.inr (.inr (.inr ⟨_,rfl,rfl,by decide +kernel⟩)))
  | s0=>exact .inr (.inr (.inr (.inr ⟨_,rfl,rfl,by decide +kernel⟩)))
  | tup h=>exact .inl ⟨_,rfl,sh _ rfl⟩
  | lst e h=>exact .inl ⟨_,rfl,sh _ rfl⟩
  | dct e h=>exact .inl ⟨_,rfl,sh _ rfl⟩
 | @tup a xs ds b h hl hs =>
  obtain ⟨a1,a2,a3,a4,a5⟩:=gU hs
  refine .inl ⟨_,rfl,fun pins σ s I=>?_,?_,?_,qK (d:=.tuple ds) ?_ ?_⟩
  ·obtain ⟨bs,q,n⟩:=xC (Pq:=fun bs=>b = true→sysModules ∉ bs) I h fun us r=>kG I hs r
   refine ⟨bs,q,fun z=>n ?_⟩
   cases b with
   | true=>rfl
   | false=>unfold PyData.hasDict at z; rw [a5 rfl] at z; cases z
  ·unfold PyData.showable; exact a1
  ·unfold PyData.depth; omega
  ·unfold PyData.leavesShort; exact a3
  ·unfold PyData.weight; omega
 | @lst a xs ds h hl hs =>
  obtain ⟨a1,a2,a3,a4,a5⟩:=gU hs
  refine .inl ⟨_,rfl,fun pins σ s I=>?_,?_,?_,qK (d:=.list ds) ?_ ?_⟩
  ·obtain ⟨its,r,⟨o,n,ho,hc,_,hdat⟩,_⟩:=I.list (SqL.of h)
   obtain ⟨as,q,_⟩:=kG I hs r
   exact ⟨_,.list ho hc hdat (by simpa using q),fun z=>by unfold PyData.hasDict at z; rw [a5 rfl] at z; cases z⟩
  ·unfold PyData.showable; exact a1
  ·unfold PyData.depth; omega
  ·unfold PyData.leavesShort; exact a3
  ·unfold PyData.weight; omega
 | @str z h=>exact .inr (.inr (.inr (.inr ⟨z,rfl,rfl,h⟩)))
end L2
namespace K12
open PySem L2 NetM
abbrev mI : Stmt:=top 46
def okS (x : Str) : Prop:=∀ c∈x.cps.toList,c < 16 ^ 8
theorem okS.app {x y : Str} (a : okS x) (b : okS y) : okS (x ++ y):=fun c h=>by
 rw [show (x ++ y).cps = x.cps ++ y.cps from rfl,Array.toList_append] at h
 exact (List.mem_append.mp h).elim (a c) (b c)
theorem uS {sep : Str} (hs : okS sep) : ∀ {ts : List Str},(∀ t∈ts,okS t)→okS (Str.join sep ts)
 | [],_=>fun c h=>nomatch h
 | [x],h=>h x List.mem_cons_self
 | x :: y :: r,h=>((h x List.mem_cons_self).app hs).app (uS hs (ts:=y :: r) fun t ht=>h t (List.mem_cons_of_mem _ ht))
theorem aDs {n : Nat} (h : n ≤ 8) : okS (toString (n : Int) : String):=by
 have all : ∀ n : Nat,n < 9→((Str.ofString (toString (n : Int))).cps.toList.all fun c=>decide (c < 16 ^ 8)) = true:=by decide +kernel
 intro c hc
 exact of_decide_eq_true (List.all_eq_true.mp (all n (by omega)) c hc)
theorem xD : ∀ {ns : List Nat},(∀ n∈ns,n ≤ 8)→∀ t∈PyData.shownAll (ns.map fun (n : Nat)=>PyData.int n),okS t
 | [],_,t,h=>nomatch h
 | n :: ns,hn,t,h=>by
  rw [List.map_cons] at h
  unfold PyData.shownAll at h
  rcases List.mem_cons.mp h with rfl | h
  ·exact aDs (hn n List.mem_cons_self)
  ·exact xD (fun m hm=>hn m (List.mem_cons_of_mem _ hm)) t h
theorem aBa {ns : List Nat} (hn : ∀ n∈ns,n ≤ 8) : okS (PyData.tuple (ns.map fun (n : Nat)=>PyData.int n)).shown:=by
 unfold PyData.shown tupleText
 refine (okS.app ?_ (uS ?_ (xD hn))).app ?_
 ·intro c hc
  exact of_decide_eq_true (List.all_eq_true.mp (show ((Str.ofString "(").cps.toList.all fun c=>decide (c < 16 ^ 8)) = true by decide +kernel) c hc)
 ·intro c hc
  exact of_decide_eq_true (List.all_eq_true.mp (show ((Str.ofString ", ").cps.toList.all fun c=>decide (c < 16 ^ 8)) = true by decide +kernel) c hc)
 ·intro c hc
  split at hc
  ·exact of_decide_eq_true (List.all_eq_true.mp (show ((Str.ofString ",)").cps.toList.all fun c=>decide (c < 16 ^ 8)) = true by decide +kernel) c hc)
  ·exact of_decide_eq_true (List.all_eq_true.mp (show ((Str.ofString ")").cps.toList.all fun c=>decide (c < 16 ^ 8)) = true by decide +kernel) c hc)
section
variable {P : Program} {w : World} {K : W.Frag} {mg : Str→Option Value} {base : Heap}
theorem _root_.L2.Atm.wh {b : Bool} {H : Hp} {x : V} {d : PyData} (h : Atm b H x d) : ∃ o,Wh K H x o:=by
 have no : ∀ {t : Value},TyX K H x t→(W.kitOne K t (.type "int") = some false∨(W.kitOne K t (.type "int") = some true∧W.kitOne K t (.type "bool") = some true))→∃ o,Wh K H x o:=fun {t} ty h=>⟨none,.no ⟨t,ty,h⟩⟩
 cases h with
 | non=>exact no (.of .non) (.inl (by kernel_rfl))
 | bl c=>exact no (.of (.bl _)) (.inr ⟨by kernel_rfl,by kernel_rfl⟩)
 | int i h=>exact ⟨_,.int i⟩
 | big=>exact ⟨_,.int _⟩
 | s2=>exact no (.of (.str _)) (.inl (by kernel_rfl))
 | s0=>exact no (.of (.str _)) (.inl (by kernel_rfl))
 | tup h=>exact no (.of (.tup h)) (.inl (by kernel_rfl))
 | lst e h=>exact no (.of (.lst h)) (.inl (by kernel_rfl))
 | dct e h=>exact no (.of (.dK h)) (.inl (by kernel_rfl))
theorem whs {b : Bool} {H : Hp} : ∀ {xs : List V} {ds : List PyData},F2 (Atm b H) xs ds→∃ os : List (Option Int),xs.length = os.length∧∀ (i : Nat) x o,xs[i]? = some x→os[i]? = some o→Wh K H x o
 | [],[],.nil=>⟨[],rfl,fun i x o h _=>by simp at h⟩
 | x :: xs,d :: ds,.cons h hs=>by
  obtain ⟨o,ho⟩:=h.wh (K:=K)
  obtain ⟨os,hl,hos⟩:=whs hs
  refine ⟨o :: os,by rw [List.length_cons,List.length_cons,hl],fun i y o' h1 h2=>?_⟩
  cases i with
  | zero=>cases h1; cases h2; exact ho
  | succ i=>exact hos i y o' h1 h2
theorem _root_.L2.Wt.sd {H : Hp} {x : V} {d : PyData} (h : Wt H x d) : ∃ o,Sd K H x o:=by
 have no : ∀ {y : V} {t : Value},TyX K H y t→W.kitOne K t (.type "tuple") = some false→∃ o,Sd K H y o:=fun {y t} ty h=>⟨none,.no ty h⟩
 cases h with
 | one b h =>
  cases h with
  | non=>exact no (.of .non) (by kernel_rfl)
  | bl c=>exact no (.of (.bl _)) (by kernel_rfl)
  | int i h=>exact no (.of (.int _)) (by kernel_rfl)
  | big=>exact no (.of (.int _)) (by kernel_rfl)
  | s2=>exact no (.of (.str _)) (by kernel_rfl)
  | s0=>exact no (.of (.str _)) (by kernel_rfl)
  | tup h =>
   obtain ⟨os,hl,hos⟩:=whs (K:=K) (H:=H) (b:=false) (xs:=[.int 2]) (ds:=[.int 2]) (.cons (.int 2 (by decide)) .nil)
   exact ⟨_,.tup h hl hos⟩
  | lst e h=>exact no (.of (.lst h)) (by kernel_rfl)
  | dct e h=>exact no (.of (.dK h)) (by kernel_rfl)
 | tup b h hl hs =>
  obtain ⟨os,hl,hos⟩:=whs (K:=K) hs
  exact ⟨_,.tup h hl hos⟩
 | lst h hl hs=>exact no (.of (.lst h)) (by kernel_rfl)
 | str h=>exact no (.of (.str _)) (by kernel_rfl)
theorem _root_.L2.Atm.sameE {b : Bool} {p : Addr} {H H' : Hp} {x : V} {d : PyData} (h : Atm b H x d) (s : aP p H H') (hp : bD H p) : Atm b H' x d:=h.keep fun a o e k=>s _ _ e (by
 rintro rfl
 obtain ⟨u,v,z,_⟩:=hp
 rw [e] at z
 rcases k with rfl | rfl | rfl <;> cases z)
def pD (t l d : Addr) : List V:=[.non,.bl true,.bl false,.str "2",.ref t,.ref l,.ref d,.int (10 ^ 50),.str ""]
theorem aBb {H : Hp} {t l d : Addr} (ht : H t = some (.tup [.int 2])) (hl : H l = some (.lst [.int 2])) (hd : H d = some (.dK [])) : ∀ j,j < 9→∃ v dd b,(pD t l d)[j]? = some v∧Atm b H v dd∧∀ a,v = .ref a→a = t∨a = l∨a = d
 | 0,_=>⟨_,_,true,rfl,.non,fun a z=>nomatch z⟩
 | 1,_=>⟨_,_,true,rfl,.bl _,fun a z=>nomatch z⟩
 | 2,_=>⟨_,_,true,rfl,.bl _,fun a z=>nomatch z⟩
 | 3,_=>⟨_,_,true,rfl,.s2,fun a z=>nomatch z⟩
 | 4,_=>⟨_,_,true,rfl,.tup ht,fun a z=>by injection z with z; exact .inl z.symm⟩
 | 5,_=>⟨_,_,false,rfl,.lst rfl hl,fun a z=>by injection z with z; exact .inr (.inl z.symm)⟩
 | 6,_=>⟨_,_,true,rfl,.dct rfl hd,fun a z=>by injection z with z; exact .inr (.inr z.symm)⟩
 | 7,_=>⟨_,_,true,rfl,.big,fun a z=>nomatch z⟩
 | 8,_=>⟨_,_,true,rfl,.s0,fun a z=>nomatch z⟩
 | n + 9,h=>absurd h (by omega)
theorem aDt : aM ["_law_pot_here"] ["_law_pot_here"] (aG pA):=⟨rfl,rfl,rfl,by decide +kernel,rfl,by decide +kernel,by decide +kernel⟩
def qM : Sp:=fun vs H Q _=>∃ (p : Addr),vs = [.ref p]∧bD H p∧∀ (x : V) (d : PyData) (b : Bool) (H' : Hp),aP p H H'→bD H' p→Atm b H' x d→(∀ a,x = .ref a→H a = none)→Q x H'
theorem aB9 {f : Addr} {fd : FuncData} (F : Fun K "_law_thing" "_law_thing" pA f fd) (D : Cal P w K mg base CX0 1 "_law_digit" ["_law_pot_here", "_law_many"] eI) : FnOk P w K mg base CX0 2 f fd ["_law_pot_here"] qM:=by
 refine F.ok aDt (fun vs H Q E h=>?_) (fun cdv A outer s H vs Q E hr h=>?_)
 ·obtain ⟨p,rfl,_⟩:=h
  rfl
 ·obtain ⟨p,rfl,hp,q⟩:=h
  obtain ⟨es,b,p1,p2,p3,eb,hes,hb⟩ : ∃ es b p1 p2 p3,bY pA = [.Return (some (.Subscript (.List es p1) b p2)) p3]∧Q0 es∧∃ q1 q2 q3 q4 j,b = .Call (.Name "_law_digit" q1) [.Name "_law_pot_here" q2,.Constant (.int 9) j q3] [] q4 :=
   ⟨_,_,_,_,_,rfl,⟨_,_,_,rfl,_,_,_,rfl,_,_,_,rfl,_,_,_,rfl,_,_,_,_,_,rfl,_,_,_,_,rfl,_,_,rfl,_,_,_,_,_,_,rfl,_,_,rfl⟩,_,_,_,_,_,rfl⟩
  rw [eb]
  obtain ⟨q1,q2,q3,q4,j,rfl⟩:=hb
  refine ⟨_,aI (aU (bL aX (cT (paQ0 hes)) (aQ D hr aR (aA (pv 0) (aA aK aB))) (fun _ _=>rfl))),?_⟩
  refine ⟨by show 1 ≤ sizeLine; decide,fun tt htt=>⟨by show 1 ≤ sizeLine; decide,fun tl htl=>fun td htd=>⟨_,_,rfl,rfl,⟨by decide,by decide,by decide⟩,by show 9 ≤ sizeLine; decide,fun tL htL=>?_⟩⟩⟩
  have u1:=aF (o:=.tup [.int 2]) htt
  have u2:=aF (o:=.lst [.int 2]) htl
  have u3:=aF (o:=.dK []) htd
  have u4:=aF (o:=.lst (pD tt tl td)) htL
  have gt:=u4 _ _ (u3 _ _ (u2 _ _ (aD (H:=H) (a:=tt) (o:=.tup [.int 2]))))
  have gl:=u4 _ _ (u3 _ _ (aD (H:=upd H tt (.tup [.int 2])) (a:=tl) (o:=.lst [.int 2])))
  have gd:=u4 _ _ (aD (H:=upd (upd H tt (.tup [.int 2])) tl (.lst [.int 2])) (a:=td) (o:=.dK []))
  have gL : (upd (upd (upd (upd H tt (.tup [.int 2])) tl (.lst [.int 2])) td (.dK [])) tL (.lst (pD tt tl td))) tL = some (.lst (pD tt tl td)):=aD
  have s0:=((u1.trans u2).trans u3).trans u4
  have f1 : H tl = none:=u1.free htl
  have f2 : H td = none:=(u1.trans u2).free htd
  have f3 : H tL = none:=((u1.trans u2).trans u3).free htL
  refine ⟨_,rfl,p,9,rfl,by decide,by decide,hp.same s0,fun d H4 hd se hp4=>?_⟩
  obtain ⟨v,dd,b,hv,wh,hr'⟩:=aBb gt gl gd d hd
  refine ⟨tL,_,_,v,rfl,rfl,SqL.of (se _ _ gL (hp.ne f3)),aW hv,?_⟩
  have fr : ∀ a,v = .ref a→H a = none:=fun a e=>by
   rcases hr' a e with rfl | rfl | rfl
   ·exact htt
   ·exact f1
   ·exact f2
  exact q v dd b H4 (fun b u e n=>se _ _ (s0 _ _ e) n) hp4 (wh.sameE se (hp.same s0)) fr
theorem fA {xs : List V} {lo hi : Option Int} {x : V} (h : x∈cutV xs lo hi) : x∈xs:=by
 unfold cutV at h
 exact List.mem_of_mem_drop (List.mem_of_mem_take h)
theorem jL {xs : List V} {lo hi : Option Int} : (cutV xs lo hi).length ≤ xs.length:=by
 unfold cutV
 rw [List.length_take,List.length_drop]; omega
theorem kI {xs : List V} {k : Nat} : (cutV xs none (some (k : Int))).length ≤ k:=by
 unfold cutV
 rw [HT.sIx_none,HT.sIx_nat,List.length_take]; omega
theorem iR {xs : List V} {k : Nat} (h : k ≤ xs.length) : (cutV xs (some (k : Int)) none).length = xs.length - k:=by
 unfold cutV
 rw [HT.sIx_none,HT.sIx_nat,List.length_take,List.length_drop]; omega
theorem gK {b : Bool} {H : Hp} {ns : List Nat} (hn : ∀ x∈ns,2 ≤ x∧x ≤ 8) : ∀ x∈NV ns,∃ d,Atm b H x d:=fun x hx=>by
 obtain ⟨n,hn',rfl⟩:=List.mem_map.mp hx
 exact ⟨_,.int _ (by have:=hn n hn'; omega)⟩
theorem sA {b : Bool} {H : Hp} : ∀ {ns : List Nat},(∀ x∈ns,2 ≤ x∧x ≤ 8)→F2 (Atm b H) (NV ns) (ns.map fun (n : Nat)=>PyData.int n)
 | [],_=>.nil
 | n :: ns,h=>.cons (.int _ (by have:=h n List.mem_cons_self; omega)) (sA fun x hx=>h x (List.mem_cons_of_mem _ hx))
theorem uT : aM ["_law_pot_here", "_law_step", "_law_sides_here", "_law_at"] ["_law_pot_here", "_law_step", "_law_sides_here"] (aG mI):=⟨rfl,rfl,rfl,by decide +kernel,rfl,by decide +kernel,by decide +kernel⟩
def nN : Sp:=fun vs H Q _=>∃ (p a : Addr) (st : Nat) (ns : List Nat),vs = [.ref p,.int st,.ref a]∧bD H p∧H a = some (.tup (NV ns))∧Box ns∧∀ (x : V) (d : PyData) (H' : Hp),aP p H H'→bD H' p→Wt H' x d→x ≠ .ref p→Q x H'
theorem aBc {f : Addr} {fd : FuncData} (F : Fun K "_law_spoilt" "_law_spoilt" mI f fd) (B : Bl mg) (D : Cal P w K mg base CX0 1 "_law_digit" ["_law_pot_here", "_law_many"] eI) (TH : Cal P w K mg base CX0 2 "_law_thing" ["_law_pot_here"] qM) : FnOk P w K mg base CX0 3 f fd ["_law_pot_here", "_law_step", "_law_sides_here"] nN:=by
 refine F.ok uT (fun vs H Q E h=>?_) (fun cdv A outer s H vs Q E hr h=>?_)
 ·obtain ⟨p,a,st,ns,rfl,_⟩:=h
  rfl
 ·obtain ⟨p,a,st,ns,rfl,hp,ha,⟨l1,l5,hn,hm⟩,q⟩:=h
  have h1 : Room 1 _:=hr.mono (by decide)
  have hu8 : (A.deeper (PyProof.Rows.envOfC "_law_spoilt" (aG mI) s.heap.objs.size f cdv)).units + 8 < cLine:=by have:=hr.un; omega
  refine ⟨_,(aE (aS (i:=3) uT.nd rfl (Or.inl rfl) (aQ D h1 aR (aA (pv 0) (aA (aO bV (by rfl) B.len PySem.boot_len (aA (pv 2) aB)) aB))))
   (aE (bR (bA fD (pv 1) aK (bB _)) (aI (aU (aV fX (aV fX (eC eZ (pv 2) eW (eX (pv 3))) (cW (aA (aV gI (aQ D h1 aR (aA (pv 0) (aA aK aB))) aK) aB))) (eC eZ (pv 2) (eX (aV cZ (pv 3) aK)) eW)))) aZ)
   (aE (bR (bA fD (pv 1) aK (bB _)) (aI (aU (aV fX (aV fX (eC eZ (pv 2) eW (eX (pv 3))) (cW (aA (aQ TH hr aR (aA (pv 0) aB)) aB))) (eC eZ (pv 2) (eX (aV cZ (pv 3) aK)) eW)))) aZ)
   (aE (bR (bA fD (pv 1) aK (bB _)) (aI (aU (aV fX (aV fX (eC eZ (pv 2) eW (eX (pv 3))) (cW (aA (aV cZ aK (aQ D h1 aR (aA (pv 0) (aA aK aB)))) aB))) (eC eZ (pv 2) (eX (pv 3)) eW)))) aZ)
   (aE (bR (bA fD (pv 1) aK (bB _)) (aI (aU (aV fX (eC eZ (pv 2) eW (eX (pv 3))) (eC eZ (pv 2) (eX (aV cZ (pv 3) aK)) eW)))) aZ)
   (aE (bR (bA fD (pv 1) aK (bB _)) (aI (aU (bL aX (cT (aA (dH iC (by rfl) B.lst PyProof.Rows.boot_list (aA (pv 2) aB)) (aA (bL sO (pv 2) (pv 3) (fun _ _=>rfl)) (aA (dH (aA9 hr.gd hu8) (by rfl) B.str PyProof.Rows.boot_str (aA (pv 2) aB)) (aA dZ (aA (aQ TH hr aR (aA (pv 0) aB)) aB)))))) (aQ D h1 aR (aA (pv 0) (aA aK aB))) (fun _ _=>rfl)))) aZ)
   (aI (aU (pv 2))))))))),?_⟩
  have nap : a ≠ p:=hp.neT ha
  refine ⟨_,rfl,_,rfl,a,_,rfl,.inr (SqT.of ha),p,_,rfl,by rw [aN]; omega,by rw [aN]; omega,hp,fun k H1 hk s1 hp1=>?_⟩
  rw [aN] at hk
  have ha1:=s1 _ _ ha nap
  have fin : ∀ (r : Addr) (xs : List V) (b : Bool) (H' : Hp),aP p H1 H'→bD H' p→H' r = some (.tup xs)→xs.length ≤ 6→(∀ x∈xs,∃ d,Atm b H' x d)→Q (.ref r) H':=fun r xs b H' s' hp' h hl hx=>by
   obtain ⟨ds,hs⟩:=aCu hx
   exact q _ _ H' (s1.trans s') hp' (.tup b h hl hs) (by intro e; injection e with e; exact hp'.neT h e)
  refine ⟨_,rfl,rfl,_,rfl,ite2 (fun c0=>?_) (fun c0=>?_)⟩
  ·-- another number
   refine ⟨_,rfl,_,rfl,_,rfl,a,_,rfl,ha1,fun r2 H2 s2 h2=>?_⟩
   have hp2:=hp1.same s2
   refine ⟨_,rfl,p,35,rfl,by decide,by decide,hp2,fun e H3 he s3 hp3=>⟨_,_,rfl,rfl,by show 1 ≤ sizeLine; decide,fun t ht=>?_⟩⟩
   have h23:=s3 _ _ h2 (hp2.neT h2)
   have st:=aF (o:=.tup [.int ((e : Int) - 1)]) ht
   refine ⟨r2,t,_,[.int ((e : Int) - 1)],rfl,rfl,st _ _ h23,aD,Nat.le_trans (Nat.add_le_add_right (Nat.le_trans jL (by rw [aN]; exact l5)) 1) (by decide),fun r4 H4 s4 h4=>?_⟩
   have s14 : aP p H1 H4:=((aP.of s2).trans s3).trans (aP.of (st.trans s4))
   have ha4:=s14 _ _ ha1 nap
   have cl:=kI (xs:=NV ns) (k:=k)
   have cr:=iR (xs:=NV ns) (k:=k + 1) (by rw [aN]; omega)
   rw [aN] at cr
   refine ⟨_,rfl,_,rfl,_,_,rfl,rfl,_,rfl,a,_,rfl,ha4,fun r5 H5 s5 h5=>⟨r4,r5,_,_,rfl,rfl,s5 _ _ h4,h5,?_,fun r6 H6 s6 h6=>?_⟩⟩
   ·refine Nat.le_trans (show _ ≤ 20 from ?_) (by decide)
    rw [List.length_append,List.length_singleton]
    have:=jL (xs:=NV ns) (lo:=some ((k : Int) + 1)) (hi:=none)
    rw [aN] at this
    omega
   ·refine fin r6 _ true H6 (s14.trans (aP.of (s5.trans s6))) (((hp3.same st).same s4).same (s5.trans s6)) h6 ?_ fun x hx=>?_
    ·rw [List.length_append,List.length_append,List.length_singleton]
     rw [show (some ((k : Int) + 1)) = some ((k + 1 : Nat) : Int) by congr 1]
     omega
    ·rcases List.mem_append.mp hx with hx | hx
     ·rcases List.mem_append.mp hx with hx | hx
      ·exact gK hn x (fA hx)
      ·rw [List.mem_singleton.mp hx]; exact ⟨_,.int _ (by omega)⟩
     ·exact gK hn x (fA hx)
  refine ⟨_,rfl,rfl,_,rfl,ite2 (fun c1=>?_) (fun c1=>?_)⟩
  ·-- another thing
   refine ⟨_,rfl,_,rfl,_,rfl,a,_,rfl,ha1,fun r2 H2 s2 h2=>?_⟩
   have hp2:=hp1.same s2
   refine ⟨_,rfl,p,rfl,hp2,fun y dy by' H3 s3 hp3 aty fry=>⟨by show 1 ≤ sizeLine; decide,fun t ht=>?_⟩⟩
   have h23:=s3 _ _ h2 (hp2.neT h2)
   have st:=aF (o:=.tup [y]) ht
   refine ⟨r2,t,_,[y],rfl,rfl,st _ _ h23,aD,Nat.le_trans (Nat.add_le_add_right (Nat.le_trans jL (by rw [aN]; exact l5)) 1) (by decide),fun r4 H4 s4 h4=>?_⟩
   have s14 : aP p H1 H4:=((aP.of s2).trans s3).trans (aP.of (st.trans s4))
   have ha4:=s14 _ _ ha1 nap
   have cl:=kI (xs:=NV ns) (k:=k)
   have cr:=iR (xs:=NV ns) (k:=k + 1) (by rw [aN]; omega)
   rw [aN] at cr
   refine ⟨_,rfl,_,rfl,_,_,rfl,rfl,_,rfl,a,_,rfl,ha4,fun r5 H5 s5 h5=>⟨r4,r5,_,_,rfl,rfl,s5 _ _ h4,h5,?_,fun r6 H6 s6 h6=>?_⟩⟩
   ·refine Nat.le_trans (show _ ≤ 20 from ?_) (by decide)
    rw [List.length_append,List.length_singleton]
    have:=jL (xs:=NV ns) (lo:=some ((k : Int) + 1)) (hi:=none)
    rw [aN] at this
    omega
   ·refine fin r6 _ by' H6 (s14.trans (aP.of (s5.trans s6))) (((hp3.same st).same s4).same (s5.trans s6)) h6 ?_ fun x hx=>?_
    ·rw [List.length_append,List.length_append,List.length_singleton]
     rw [show (some ((k : Int) + 1)) = some ((k + 1 : Nat) : Int) by congr 1]
     omega
    ·rcases List.mem_append.mp hx with hx | hx
     ·rcases List.mem_append.mp hx with hx | hx
      ·exact gK hn x (fA hx)
      ·rw [List.mem_singleton.mp hx]; exact ⟨_,aty.keep fun a o e _=>s6 _ _ (s5 _ _ (s4 _ _ (st _ _ e)))⟩
     ·exact gK hn x (fA hx)
  refine ⟨_,rfl,rfl,_,rfl,ite2 (fun c2=>?_) (fun c2=>?_)⟩
  ·-- one more
   refine ⟨_,rfl,_,rfl,_,rfl,a,_,rfl,ha1,fun r2 H2 s2 h2=>?_⟩
   have hp2:=hp1.same s2
   refine ⟨_,rfl,p,8,rfl,by decide,by decide,hp2,fun e H3 he s3 hp3=>⟨_,_,rfl,rfl,by show 1 ≤ sizeLine; decide,fun t ht=>?_⟩⟩
   have h23:=s3 _ _ h2 (hp2.neT h2)
   have st:=aF (o:=.tup [.int (1 + (e : Int))]) ht
   refine ⟨r2,t,_,[.int (1 + (e : Int))],rfl,rfl,st _ _ h23,aD,Nat.le_trans (Nat.add_le_add_right (Nat.le_trans jL (by rw [aN]; exact l5)) 1) (by decide),fun r4 H4 s4 h4=>?_⟩
   have s14 : aP p H1 H4:=((aP.of s2).trans s3).trans (aP.of (st.trans s4))
   have ha4:=s14 _ _ ha1 nap
   have cl:=kI (xs:=NV ns) (k:=k)
   have cr:=iR (xs:=NV ns) (k:=k) (by rw [aN]; omega)
   rw [aN] at cr
   refine ⟨_,rfl,_,rfl,_,rfl,a,_,rfl,ha4,fun r5 H5 s5 h5=>⟨r4,r5,_,_,rfl,rfl,s5 _ _ h4,h5,?_,fun r6 H6 s6 h6=>?_⟩⟩
   ·refine Nat.le_trans (show _ ≤ 20 from ?_) (by decide)
    rw [List.length_append,List.length_singleton]
    omega
   ·refine fin r6 _ true H6 (s14.trans (aP.of (s5.trans s6))) (((hp3.same st).same s4).same (s5.trans s6)) h6 ?_ fun x hx=>?_
    ·rw [List.length_append,List.length_append,List.length_singleton]
     omega
    ·rcases List.mem_append.mp hx with hx | hx
     ·rcases List.mem_append.mp hx with hx | hx
      ·exact gK hn x (fA hx)
      ·rw [List.mem_singleton.mp hx]; exact ⟨_,.int _ (by omega)⟩
     ·exact gK hn x (fA hx)
  refine ⟨_,rfl,rfl,_,rfl,ite2 (fun c3=>?_) (fun c3=>?_)⟩
  ·-- one out
   refine ⟨_,rfl,_,rfl,_,rfl,a,_,rfl,ha1,fun r2 H2 s2 h2=>?_⟩
   have ha2:=s2 _ _ ha1
   have cl:=kI (xs:=NV ns) (k:=k)
   have cl2:=jL (xs:=NV ns) (lo:=some ((k : Int) + 1)) (hi:=none)
   rw [aN] at cl2
   have cr:=iR (xs:=NV ns) (k:=k + 1) (by rw [aN]; omega)
   rw [aN] at cr
   refine ⟨_,rfl,_,rfl,_,_,rfl,rfl,_,rfl,a,_,rfl,ha2,fun r5 H5 s5 h5=>⟨r2,r5,_,_,rfl,rfl,s5 _ _ h2,h5,Nat.le_trans (show _ ≤ 20 by omega) (by decide),fun r6 H6 s6 h6=>?_⟩⟩
   refine fin r6 _ true H6 (aP.of ((s2.trans s5).trans s6)) (hp1.same ((s2.trans s5).trans s6)) h6 ?_ fun x hx=>?_
   ·rw [List.length_append]
    rw [show (some ((k : Int) + 1)) = some ((k + 1 : Nat) : Int) by congr 1]
    omega
   ·exact gK hn x ((List.mem_append.mp hx).elim fA fA)
  refine ⟨_,rfl,rfl,_,rfl,ite2 (fun c4=>?_) (fun c4=>?_)⟩
  ·-- no tuple at all
   refine ⟨_,rfl,a,_,rfl,.inr (SqT.of ha1),fun l hl=>?_⟩
   have sl:=aF (o:=.lst (NV ns)) hl
   have gl : (upd H1 l (.lst (NV ns))) l = some (.lst (NV ns)):=aD
   have hp2:=hp1.same sl
   have ha2:=sl _ _ ha1
   have nlp : l ≠ p:=hp1.ne hl
   generalize upd H1 l _ = H2 at *
   have hk' : k < ns.length:=hk
   have W2 : Wt H2 (.ref a) (.tuple (ns.map fun (n : Nat)=>PyData.int n)):=.tup true ha2 (by rw [aN]; omega) (sA hn)
   have sh : ∀ X : Cx,rZ X H2 a (.tuple (ns.map fun (n : Nat)=>PyData.int n)):=fun X=>by
    rcases W2.repr (X:=X) with ⟨p',e,h⟩ | ⟨e,_⟩ | ⟨_,e,_⟩ | ⟨_,e,_⟩ | ⟨_,e,_⟩
    ·injection e with e; subst e; exact h
    all_goals cases e
   refine ⟨_,rfl,_,rfl,a,_,_,.int ((ns.getD k 0 : Nat) : Int),rfl,rfl,SqT.of ha2,aW ?_,_,rfl,a,_,rfl,sh _,_,rfl,p,rfl,hp2,fun y dy by' H3 s3 hp3 aty fry=>⟨by show 5 ≤ sizeLine; decide,fun L hL=>⟨_,rfl,p,5,rfl,by decide,by decide,hp3.same (aF hL),fun e H4 he s4 hp4=>?_⟩⟩⟩
   ·unfold NV
    rw [List.getElem?_map,List.getD_eq_getElem?_getD,List.getElem?_eq_getElem hk']; rfl
   have sL:=aF (o:=.lst [.ref l,.int ((ns.getD k 0 : Nat) : Int),.str (PyData.tuple (ns.map fun (n : Nat)=>PyData.int n)).shown,.non,y]) hL
   have s24 : aP p H2 H4:=(s3.trans (aP.of sL)).trans s4
   have s14 : aP p H1 H4:=(aP.of sl).trans s24
   have gL:=s4 _ _ (aD (H:=H3) (a:=L) (o:=.lst [.ref l,.int ((ns.getD k 0 : Nat) : Int),.str (PyData.tuple (ns.map fun (n : Nat)=>PyData.int n)).shown,.non,y])) (hp3.ne hL)
   have fin2 : ∀ (v : V) (d : PyData),[V.ref l,.int ((ns.getD k 0 : Nat) : Int),.str (PyData.tuple (ns.map fun (n : Nat)=>PyData.int n)).shown,.non,y][e]? = some v→Wt H4 v d→v ≠ .ref p→tOp (rIxL K) (fun _ H Q=>Q (.ref L) H) (fun _ H Q=>Q (.int (e : Int)) H) [] H4 Q:=fun v d hv W n=>⟨L,_,_,v,rfl,rfl,SqL.of gL,aW hv,q _ _ H4 (s1.trans s14) hp4 W n⟩
   have hgd : 2 ≤ ns.getD k 0∧ns.getD k 0 ≤ 8:=by
    rw [List.getD_eq_getElem?_getD,List.getElem?_eq_getElem hk']
    exact hn _ (List.getElem_mem _)
   match e,he with
   | 0,_=>exact fin2 _ _ rfl (.lst (s24 _ _ gl nlp) (by rw [aN]; omega) (sA hn)) (by intro z; injection z with z; exact nlp z)
   | 1,_=>exact fin2 _ _ rfl (.one true (.int _ (by omega))) (by intro z; cases z)
   | 2,_ =>
    refine fin2 _ _ rfl (.str ?_) (by intro z; cases z)
    refine Nat.le_trans (StrLaws.reprText_len _ (aBa fun n h=>(hn n h).2)) ?_
    have : (PyData.tuple (ns.map fun (n : Nat)=>PyData.int n)).shown.length ≤ 62 * 2000 + 60:=by
     obtain ⟨_,_,a3,a4,_⟩:=gU (b:=true) (H:=H4) (sA (ns:=ns) hn)
     have:=PyData.shown_le 60 (by decide) (.tuple (ns.map fun (n : Nat)=>PyData.int n)) (by unfold PyData.leavesShort; exact a3)
     have e : (PyData.tuple (ns.map fun (n : Nat)=>PyData.int n)).weight ≤ 2000:=by unfold PyData.weight; rw [aN] at a4; omega
     omega
    exact Nat.le_trans (show _ ≤ 1300000 by omega) (by decide)
   | 3,_=>exact fin2 _ _ rfl (.one true .non) (by intro z; cases z)
   | 4,_ =>
    refine fin2 _ _ rfl (.one by' ((aty.keep fun a o e _=>sL _ _ e).sameE s4 (hp3.same sL))) ?_
    intro z
    exact hp2.full (fry p z)
   | n + 5,h=>exact absurd h (by omega)
  ·-- as they were
   exact ⟨_,rfl,fin a _ true H1 aP.refl hp1 ha1 (by rw [aN]; omega) (gK hn)⟩
end
end K12
namespace L2
open PySem PySem.Spec PyProof.Rows
def aE0 (K : W.Frag) (Dc : Addr) (i : Nat) (tb : (St→XK)→TS) (th : TS) : TS:=fun D σ H=>∃ E,tTry K Dc i E (tb E) th D σ H
theorem aDu {X : Cx} {body suite : List Stmt} {b₀ : Stmt} {x n : Str} {np hpos pos : Pos} {Dc : Addr} {i : Nat} {tb : (St→XK)→TS} {th : TS} (TD : ECls X.K Dc) (hg : Gl X x) (hm : X.mg x = some (.ref Dc)) (hst : X.stack = X.env :: X.outer) (hfr : X.env.frame = some X.env.locals)
  (hN : X.N.Nodup) (hi : X.N[i]? = some n) (hn : X.env.scope.names.lookup n = some .local)
  (hb : ∀ E pn xe,jC (CXf X.prog X.w) (X.trying pn xe) E→PSs (X.trying pn xe) body (tb E)) (hh : ∀ pn p,PSs (X.handling pn p) (b₀ :: suite) th) (hdb : (x == ("__debug__" : Str)) = false:=by decide) :
  PS X (.Try body [.ExceptHandler (some (.Name x np)) (some n) (b₀ :: suite) hpos] [] [] pos) (aE0 X.K Dc i tb th):=by
 intro pins s σ H D I h
 obtain ⟨E,h⟩:=h
 exact aDV (E:=E) TD hg hm hst hfr hN hi hn (hb E) hh hdb pins s σ H D I h
end L2
namespace K12
open PySem L2 NetM
abbrev nP : Stmt:=top 51
abbrev zE : Stmt:=top 52
structure CalW (P : Program) (w : World) (K : W.Frag) (mg : Str→Option Value) (base : Heap) (k : Nat) (x : Str) (ps : List Str) (sp : Sp) : Prop where
 ex : ∃ f fd,mg x = some (.ref f)∧W.keepIn K (.ref f) = true∧dE K fd ps []∧lR P w K mg base (CXf P w) k f fd ps sp
theorem aDv {X : Cx} {CX : CXT} {k : Nat} {x : Str} {ps : List Str} {sp : Sp} {E : St→XK} {e : Expr} {es : List Expr} {t : TA} {p pos : Pos} (C : Cal X.prog X.w X.K X.mg X.base CX k x ps sp) (hr : Room k X.A) (hx : jC CX X E) (ha : PA X (e :: es) t) (hg : Gl X x:=by rfl)
  (hdb : (x == ("__debug__" : Str)) = false:=by decide) (he : starEach (e :: es) X.env = (false,eval e X.env) :: starEach es X.env:=by rfl) (hpl : (backTo pos (starEach es X.env)).any (·.1) = false:=by rfl) :
  PE X (.Call (.Name x p) (e :: es) [] pos) (sU sp [] E t):=by
 obtain ⟨f,fd,a,b,c,d⟩:=C.ex
 exact aBz d hr hg a b c .nil hx ha hdb he hpl
theorem aDw {X : Cx} {k : Nat} {x : Str} {ps : List Str} {sp : Sp} {E : XK} {e : Expr} {es : List Expr} {t : TA} {p pos : Pos} (C : CalW X.prog X.w X.K X.mg X.base k x ps sp) (hr : gD k X.A) (hx : dO (CXf X.prog X.w) X E) (ha : PA X (e :: es) t) (hg : Gl X x:=by rfl)
  (hdb : (x == ("__debug__" : Str)) = false:=by decide) (he : starEach (e :: es) X.env = (false,eval e X.env) :: starEach es X.env:=by rfl) (hpl : (backTo pos (starEach es X.env)).any (·.1) = false:=by rfl) :
  PE X (.Call (.Name x p) (e :: es) [] pos) (gA sp [] E t):=by
 obtain ⟨f,fd,a,b,c,d⟩:=C.ex
 exact aBA d hr hg a b c .nil hx ha hdb he hpl
theorem aE1 : bootBuiltins "ValueError" = some (.type "ValueError"):=by decide +kernel
structure Errs (K : W.Frag) (mg : Str→Option Value) (cB CE : Addr) (c : Nat→Addr) : Prop where
 beat : Er K mg "BeatError" cB
 house : Er K mg "NoShape" CE
 e0 : mg "NoBerth" = some (.ref (c 0))
 e1 : mg "NoHanding" = some (.ref (c 1))
 e2 : mg "NoHouse" = some (.ref (c 2))
 e3 : mg "NoNet" = some (.ref (c 3))
 e4 : mg "NoPlan" = some (.ref (c 4))
 e5 : mg "NoRanks" = some (.ref (c 5))
 e6 : mg "NoRow" = some (.ref (c 6))
 e7 : mg "NoStand" = some (.ref (c 7))
 e8 : mg "NoText" = some (.ref (c 8))
 e9 : mg "NoTie" = some (.ref (c 9))
 e10 : mg "TooMany" = some (.ref (c 10))
 ka : W.kitAny K (.ref CE) ([c 0,c 1,c 2,c 3,c 4,c 5,c 6,c 7,c 8,c 9,c 10].map Value.ref) = some false
 kh : W.kitOne K (.ref CE) (.ref CE) = some true
 kv : W.kitOne K (.ref CE) (.type "ValueError") = some true
 sb : W.subIn K (.ref CE) (.ref cB) = some true
section
variable {P : Program} {w : World} {K : W.Frag} {mg : Str→Option Value} {base : Heap}
theorem aBd : aM ["_law_e"] ["_law_e"] (aG nP):=⟨rfl,rfl,rfl,by decide +kernel,rfl,by decide +kernel,by decide +kernel⟩
def lM (CE : Addr) : Sp:=fun vs H Q _=>∃ x : Addr,vs = [.ref x]∧H x = some (excO x (.ref CE))∧∀ H',Same H H'→Q (.bl true) H'
theorem zF {f cB CE : Addr} {c : Nat→Addr} {fd : FuncData} (F : Fun K "_law_refused" "_law_refused" nP f fd) (B : Bl mg) (R : Errs K mg cB CE c) : lR P w K mg base (CXf P w) 1 f fd ["_law_e"] (lM CE):=by
 refine F.okW aBd (fun vs H Q E h=>?_) (fun cdv A outer s H vs Q E hr h=>?_)
 ·obtain ⟨x,rfl,_⟩:=h
  rfl
 ·obtain ⟨x,rfl,hx,q⟩:=h
  refine ⟨_,aE (bR (cP (aO aAJ (by rfl) B.isi PyProof.Rows.boot_isinstance (aA (pv 0) (aA (cW (aA (cE (v:=.ref (c 0)) rfl R.e0 rfl) (aA (cE (v:=.ref (c 1)) rfl R.e1 rfl) (aA (cE (v:=.ref (c 2)) rfl R.e2 rfl) (aA (cE (v:=.ref (c 3)) rfl R.e3 rfl) (aA (cE (v:=.ref (c 4)) rfl R.e4 rfl) (aA (cE (v:=.ref (c 5)) rfl R.e5 rfl) (aA (cE (v:=.ref (c 6)) rfl R.e6 rfl) (aA (cE (v:=.ref (c 7)) rfl R.e7 rfl) (aA (cE (v:=.ref (c 8)) rfl R.e8 rfl) (aA (cE (v:=.ref (c 9)) rfl R.e9 rfl) (aA (cE (v:=.ref (c 10)) rfl R.e10 rfl) aB)))))))))))) aB)))) bZ aZ)
   (aI (aU (eK (aO aAe (by rfl) B.isi PyProof.Rows.boot_isinstance (aA (pv 0) (aA (cE (v:=.ref CE) rfl R.house.at_ rfl) aB))) (gG (aO dD (by rfl) B.isi PyProof.Rows.boot_isinstance (aA (pv 0) (aA (dR (v:=.ty "ValueError") rfl B.verr aE1 rfl) aB))))))),?_⟩
  refine ⟨_,rfl,by show 11 ≤ sizeLine; decide,fun t ht=>⟨x,CE,t,[c 0,c 1,c 2,c 3,c 4,c 5,c 6,c 7,c 8,c 9,c 10],false,rfl,R.house.ok,(aF ht) _ _ hx,SqT.of aD,R.ka,_,rfl,iteF ?_⟩⟩
  have hx':=(aF (o:=.tup ([c 0,c 1,c 2,c 3,c 4,c 5,c 6,c 7,c 8,c 9,c 10].map V.ref)) ht) _ _ hx
  exact ⟨_,rfl,_,_,_,_,rfl,R.kh,.exc R.house.ok hx',true,rfl,_,rfl,_,_,_,.ref CE,true,rfl,⟨rfl,R.kv⟩,.exc R.house.ok hx',q _ (aF ht)⟩
theorem jM : aM ["_law_sides_here", "_law_net", "_law_refused_here", "_law_e"] ["_law_sides_here"] (aG zE):=⟨rfl,rfl,rfl,by decide +kernel,rfl,by decide +kernel,by decide +kernel⟩
def uU (K : W.Frag) (C Pt : Addr) : Sp:=fun vs H Q _=>∃ (x : V) (o : Option (List (Option Int))),vs = [x]∧Sd K H x o∧Tab Pt H ∧
 (box o = none→∀ (t : Addr) (H' : Hp),Same H H'→H' t = some (.tup [.non,.bl true])→Q (.ref t) H') ∧
 ∀ ns,box o = some ns→∀ (t p : Addr) (H' : Hp),cD C H' (fun a=>H a = none) p (pr ns) (dbl ((boxQ ns).map ci2))→Tab Pt H'→iQ Pt H H'→H p = none→H' t = some (.tup [.ref p,.bl false])→Q (.ref t) H'
theorem aDx {f C Pt cB CE : Addr} {c : Nat→Addr} {fd : FuncData} (F : Fun K "_law_made" "_law_made" zE f fd) (R : Errs K mg cB CE c) (BN : Cal P w K mg base (CXf P w) 10 "box_net" ["sides"] (lK K C Pt CE)) (RF : CalW P w K mg base 1 "_law_refused" ["_law_e"] (lM CE)) :
  FnOk P w K mg base CX0 11 f fd ["_law_sides_here"] (uU K C Pt):=by
 refine F.ok jM (fun vs H Q E h=>?_) (fun cdv A outer s H vs Q E hr h=>?_)
 ·obtain ⟨x,o,rfl,_⟩:=h
  rfl
 ·obtain ⟨x,o,rfl,sd,tb,k1,k2⟩:=h
  have h1 : Room 1 _:=hr.mono (by decide)
  refine' ⟨_,aE (aS (i:=1) jM.nd rfl (Or.inl rfl) dZ)
   (aE (aS (i:=2) jM.nd rfl (Or.inl rfl) nQ)
   (aE (aDu (i:=3) (tb:=fun E=>tAsg (sU (lK K C Pt CE) [] E (aY (tVar 0) tNil)) (bE 1)) R.beat.ok rfl R.beat.at_ rfl rfl jM.nd rfl rfl
      (fun E pn' xe hx=>aI (aS (i:=1) jM.nd rfl (Or.inl rfl) (aDv BN hr hx (aA (pv 0) aB))))
      ?hh)
   (aI (aU (cW (aA (pv 1) (aA (pv 2) aB))))))),?_⟩
  case hh=>exact fun pn' p'=>aI (aS (i:=2) jM.nd rfl (Or.inl rfl) (aDw RF ⟨h1.dp,h1.un⟩ oH (aA (pv 3) aB)))
  refine ⟨fun σ' C' _ H'=>σ' = [some x,some .non,some (.bl false),none]∧C' = .ref CE∧Same H H'∧box o = none,⟨?_,?_⟩⟩
  ·refine ⟨_,rfl,x,o,rfl,sd,tb,fun hb=>⟨rfl,rfl,Same.refl _,hb⟩,fun ns hb p H' hp N t st=>?_⟩
   refine ⟨_,rfl,_,rfl,by show 2 ≤ sizeLine; decide,fun t' ht'=>?_⟩
   have s2:=aF (o:=.tup [.ref p,.bl false]) ht'
   exact k2 ns hb t' p _ (N.same s2) (t.same s2) (fun b u e n=>s2 _ _ (st _ _ e n)) hp aD
  ·rintro σ' C' H4 ⟨rfl,rfl,s4,ht⟩
   refine ⟨R.sb,⟨_,rfl⟩,fun px hpx=>?_⟩
   have s5:=aF (o:=excO px (.ref CE)) hpx
   refine ⟨_,rfl,px,rfl,aD,fun H6 s6=>⟨_,rfl,_,rfl,by show 2 ≤ sizeLine; decide,fun t' ht'=>?_⟩⟩
   exact k1 ht t' _ (((s4.trans s5).trans s6).trans (aF ht')) aD
end
end K12
namespace L2
open PySem PySem.Spec PyProof.Rows
def aBe (K : W.Frag) : List V→Hp→VK→Prop:=fun xs H Q=>∃ (l : Addr) (ns : List Int),xs = [.ref l]∧SqL K H l (ns.map V.int)∧ns.length < 64∧∀ (D : Addr) (ns' : List Int),H D = none→ns'.Perm ns→ns'.Pairwise (· ≤ ·)→Q (.ref D) (upd H D (.lst (ns'.map V.int)))
theorem zG {X : Cx} : cK X (.builtin "sorted") (aBe X.K):=by
 intro pins s σ H xs us Q I r h
 obtain ⟨l,ns,rfl,hl,h64,q⟩:=h
 obtain ⟨u1,rfl,r1⟩:=r.one
 obtain rfl : u1 = Value.ref l:=r1
 obtain ⟨its,rv,pl,_⟩:=I.list hl
 have ia:=oC rv
 refine sorted_ints pl.isList ia (by rw [ia.length]; exact h64) fun out ns' a1 a2 a3=>?_
 obtain ⟨⟨e,ho⟩,keep⟩:=vO (h:=s.heap) (vs:=its) (out:=out)
 have hnone : s.heap.get? (s.heap.objs.size + 1) = none:=Heap.get?_none_of_le (Nat.le_succ _)
 have eo : out = out.toList.toArray:=by simp
 refine ⟨.ref (s.heap.objs.size + 1),_,I.laidN (t':=s.toks) (o:=.lst (ns'.map V.int)) keep hnone ⟨?_,out.toList,e,kQ a1,by rw [ho]⟩,rfl,q _ ns' (I.hok.freshN hnone) a2 a3⟩
 rw [List.length_map,a2.length_eq]
 exact Nat.le_trans (Nat.le_of_lt h64) (by decide)
end L2
namespace NetM
def stp (n : Nat) (ts : Ts) (h : Nat) : List Int:=(ts.filter fun u=>decide (u.1 = (h : Int))).map fun u=>(u.2 - u.1) % (n : Int)
theorem aBf {n : Nat} {ts : Ts} {h o : Nat} (ho : o∈outN n ts h) : ∃ s,s < n∧(h + s) % n = o:=by
 unfold outN at ho
 obtain ⟨s,hs,e⟩:=List.mem_map.mp (List.mem_filter.mp ho).1
 exact ⟨s,List.mem_range.mp hs,e⟩
theorem aBg {l : List Int} (h : l.Pairwise (· ≤ ·)) (nd : l.Nodup) : l.Pairwise (fun x y=>x < y):=by
 have:=h.and (List.nodup_iff_pairwise_ne.mp nd)
 exact this.imp fun {a b} z=>by omega
theorem pY {n h a b : Nat} (hh : h < n) (ha : a < n) (hb : b < n) (e : key n h a = key n h b) : a = b:=by
 have st : ∀ c,c < n→∃ s,s < n∧(h + s) % n = c:=fun c hc=>by
  refine ⟨if h ≤ c then c - h else c + n - h,by split <;> omega,?_⟩
  split
  ·rw [show h + (c - h) = c by omega,Nat.mod_eq_of_lt hc]
  ·rw [show h + (c + n - h) = c + n by omega,Nat.add_mod_right,Nat.mod_eq_of_lt hc]
 obtain ⟨s,hs,rfl⟩:=st a ha
 obtain ⟨t,ht,rfl⟩:=st b hb
 rw [eO hh hs,eO hh ht] at e
 rw [Int.ofNat.inj e]
theorem aDy {n : Nat} {ts : Ts} (F : Fine n ts) {h : Nat} (hh : h < n) {ns : List Int} (p : ns.Perm (stp n ts h)) (s : ns.Pairwise (· ≤ ·)) : ns = (outN n ts h).map (key n h):=by
 have mem : ∀ u∈ts.filter (fun u=>decide (u.1 = (h : Int))),∃ o : Nat,o < n∧u = ((h : Int),(o : Int))∧T ts h o:=fun u hu=>by
  obtain ⟨h1,h2⟩:=List.mem_filter.mp hu
  have h2 : u.1 = (h : Int):=of_decide_eq_true h2
  have r:=(F.rg u h1).2
  have eu : u = ((h : Int),((u.2.toNat : Nat) : Int)):=Prod.ext h2 (by show u.2 = _; omega)
  refine ⟨u.2.toNat,by omega,eu,?_⟩
  unfold T
  rw [← eu]; exact h1
 have nd : (stp n ts h).Nodup:=by
  unfold stp
  refine List.nodup_iff_pairwise_ne.mpr (List.pairwise_map.mpr ?_)
  have:=List.nodup_iff_pairwise_ne.mp (F.nd.sublist (List.filter_sublist (p:=fun u=>decide (u.1 = (h : Int)))))
  refine this.imp_of_mem fun {u v} hu hv hne e=>hne ?_
  obtain ⟨a,ha,rfl,_⟩:=mem u hu
  obtain ⟨b,hb,rfl,_⟩:=mem v hv
  rw [pY hh ha hb e]
 refine gE (k:=fun x=>x) (aBg s (p.nodup_iff.mpr nd)) (List.pairwise_map.mpr (iV hh)) fun x=>?_
 rw [p.mem_iff]
 unfold stp
 rw [List.mem_map,List.mem_map]
 constructor
 ·rintro ⟨u,hu,rfl⟩
  obtain ⟨o,ho,rfl,t⟩:=mem u hu
  exact ⟨o,(dM F hh).mpr t,rfl⟩
 ·rintro ⟨o,ho,rfl⟩
  exact ⟨((h : Int),(o : Int)),List.mem_filter.mpr ⟨(dM F hh).mp ho,by simp⟩,rfl⟩
theorem xE {n : Nat} {ts : Ts} (F : Fine n ts) {h : Nat} : (stp n ts h).length ≤ 8:=by unfold stp; rw [List.length_map]; exact F.most _
end NetM
namespace K12
open PySem L2 NetM
abbrev uV : Stmt:=top 53
theorem nbLH : (["_law_house"] : List Str).Nodup:=by decide +kernel
theorem aEk : (["_law_house", "_law_many", "_law_found"] : List Str).Nodup:=by decide +kernel
theorem aEl : (["_law_step", "_law_house", "_law_many"] : List Str).Nodup:=by decide +kernel
theorem zH {xs : List Addr} (nd : xs.Nodup) {i j : Nat} (hi : i < xs.length) (hj : j < xs.length) (e : xs[i] = xs[j]) : i = j:=NetM.aAI nd hi hj e
structure mJ (H0 H : Hp) (l : Addr) (bs : List Addr) (n : Nat) (g : Nat→List Int) : Prop where
 at_ : H l = some (.lst (bs.map V.ref))
 len : bs.length = n
 nd : bs.Nodup
 nl : l ∉ bs
 fr : ∀ b∈bs,H0 b = none
 row : ∀ h,h < n→H (bs.getD h 0) = some (.lst (IV (g h)))
theorem lN {bs : List Addr} {h : Nat} (hh : h < bs.length) : bs.getD h 0∈bs:=by rw [List.getD_eq_getElem?_getD,List.getElem?_eq_getElem hh]; exact List.getElem_mem _
theorem mJ.put {H0 H : Hp} {l : Addr} {bs : List Addr} {n : Nat} {g g' : Nat→List Int} (F : mJ H0 H l bs n g) {h : Nat} (hh : h < n) {xs : List Int} (e1 : g' h = xs) (e2 : ∀ k,k ≠ h→g' k = g k) : mJ H0 (upd H (bs.getD h 0) (.lst (IV xs))) l bs n g':=by
 have hb:=lN (bs:=bs) (h:=h) (by rw [F.len]; exact hh)
 refine ⟨by rw [aH (by rintro z; exact F.nl (z ▸ hb))]; exact F.at_,F.len,F.nd,F.nl,F.fr,fun k hk=>?_⟩
 by_cases c : k = h
 ·subst c; rw [aD,e1]
 ·have : bs.getD k 0 ≠ bs.getD h 0:=fun z=>c (by
   have h1 : k < bs.length:=by rw [F.len]; exact hk
   have h2 : h < bs.length:=by rw [F.len]; exact hh
   rw [List.getD_eq_getElem?_getD,List.getD_eq_getElem?_getD,List.getElem?_eq_getElem h1,List.getElem?_eq_getElem h2] at z
   exact zH F.nd h1 h2 z)
  rw [aH this,e2 k c]; exact F.row k hk
section
variable {P : Program} {w : World} {K : W.Frag} {mg : Str→Option Value} {base : Heap}
theorem mK : aM ["_law_many", "_law_ties", "_law_found", "_law_one", "_law_other"] ["_law_many", "_law_ties"] (aG uV):=⟨rfl,rfl,rfl,by decide +kernel,rfl,by decide +kernel,by decide +kernel⟩
def qN : Sp:=fun vs H Q _=>∃ (n : Nat) (l : Addr) (zs : Zs),vs = [.int n,.ref l]∧cX H l n zs∧∀ (r : Addr) (H' : Hp),Same H H'→H r = none→cI H' (fun a=>H a = none) r n (outN n (zp zs))→Q (.ref r) H'
theorem aCa {f : Addr} {fd : FuncData} (F : Fun K "_law_leads" "_law_leads" uV f fd) (B : Bl mg) : FnOk P w K mg base CX0 1 f fd ["_law_many", "_law_ties"] qN:=by
 refine F.ok mK (fun vs H Q E h=>?_) (fun cdv A outer s H vs Q E hr h=>?_)
 ·obtain ⟨n,l,zs,rfl,_⟩:=h
  rfl
 ·obtain ⟨n,l,zs,rfl,TT,q⟩:=h
  refine' ⟨_,aE (aS (i:=2) mK.nd rfl (Or.inr rfl) ?c1)
   (aE (cJ PassesOwn.never rfl (bX (pv 1)) (eL (n:=2) rfl (bQ (aL (i:=3) mK.nd rfl (Or.inl rfl)) (bQ (aL (i:=4) mK.nd rfl (Or.inl rfl)) dS)))
    (aI (cH (gB PySem.F.plainAttrs_list PySem.F.slot_list_append PySem.F.type_list_append dA (bL aX (pv 2) (pv 3) (fun _ _=>rfl)) (aA (aV eM (aV gI (pv 4) (pv 3)) (pv 0)) aB)))))
   (aI (aU ?c2))),?_⟩
  case c1 =>
   refine' cC (g:=bE 0) (te:=tLst tNil) (NB:=["_law_house"]) (src:=[none]) (bU (by kernel_rfl)) rfl (cA rfl B.range (aA (pv 0) aB)) ?g ?t ?e
   case g=>exact fun cl C s₃ H₃ fp=>aL (i:=0) nbLH rfl (Or.inl rfl) (Or.inr rfl)
   case t=>exact fun cl C s₃ H₃ fp=>cF
   case e=>exact fun cl C s₃ H₃ fp=>cT aB
  case c2 =>
   refine' cC (g:=bE 0) (te:=xU [none,some 0,some 1] (aCe K (tCB (aBe K) (aY (tOp (rIxL K) (tVar 2) (tVar 0)) tNil))) (bE 0) (fun σ H Q=>Q true H) (tOp (rI (fun _ j=>0 < j) fun i j=>.int (i % j)) (tOp (rI0 fun i j=>.int (i + j)) (tVar 1) (tVar 0)) (tVar 2))) (NB:=["_law_house", "_law_many", "_law_found"]) (src:=[none,some 0,some 2]) (bU (by kernel_rfl)) rfl (cA rfl B.range (aA (pv 0) aB)) ?g ?t ?e
   case g=>exact fun cl C s₃ H₃ fp=>aL (i:=0) aEk rfl (Or.inr rfl) (Or.inl rfl)
   case t=>exact fun cl C s₃ H₃ fp=>cF
   case e =>
    intro cl C s₃ H₃ fp
    refine' cC (g:=bE 0) (te:=tOp (rI (fun _ j=>0 < j) fun i j=>.int (i % j)) (tOp (rI0 fun i j=>.int (i + j)) (tVar 1) (tVar 0)) (tVar 2)) (NB:=["_law_step", "_law_house", "_law_many"]) (src:=[none,some 0,some 1]) (bU (by kernel_rfl)) rfl (bX (aO zG (by rfl) B.sorted PyProof.Rows.boot_sorted (aA (bL aX (pv 2) (pv 0) (fun _ _=>rfl)) aB))) ?g ?t ?e
    case g=>exact fun cl C s₃ H₃ fp=>aL (i:=0) aEl rfl (Or.inl rfl) (Or.inr rfl)
    case t=>exact fun cl C s₃ H₃ fp=>cF
    case e=>exact fun cl C s₃ H₃ fp=>aV eM (aV cZ (pv 1) (pv 0)) (pv 2)
  obtain ⟨fi,hl,po⟩:=id TT
  have n1:=fi.n1
  have n2:=fi.n2
  refine ⟨_,rfl,n,rfl,by omega,by omega,fun D hD=>?_⟩
  refine cV (n:=n) (lo:=0) (fun i ys σ H2=>(∃ a,σ = [a])∧Same H H2∧∃ bs,ys = bs.map V.ref∧mJ H H2 D bs i (fun _=>[])) ⟨⟨_,rfl⟩,aF hD,[],rfl,aD,rfl,List.nodup_nil,(fun z=>nomatch z),(fun _ z=>nomatch z),fun h z=>absurd z (by omega)⟩ ?_ ?_
  ·rintro i ys σ H2 Kt Kf hi ⟨⟨a,rfl⟩,sm,bs,rfl,fa⟩ kt kf
   refine ⟨by show 0 ≤ sizeLine; decide,fun b hb=>?_⟩
   have nbD : b ≠ D:=by rintro rfl; rw [fa.at_] at hb; cases hb
   have s2:=aF (o:=.lst []) hb
   have keep : ∀ c o ys',(upd H2 b (.lst [])) c = some o→c ≠ D→(upd (upd H2 b (.lst [])) D ys') c = some o:=fun c o ys' e h=>by rw [aH h]; exact e
   refine kt _ _ _ (s2 _ _ fa.at_) (by rw [List.length_map,fa.len]; exact Nat.lt_of_lt_of_le (show i < 33 by omega) (by decide)) ⟨⟨_,rfl⟩,bP (sm.trans s2) hD,bs ++ [b],by rw [List.map_append]; rfl,by rw [aD,List.map_append]; rfl,by rw [List.length_append,fa.len]; rfl,?_,?_,?_,?_⟩
   ·refine List.nodup_append.mpr ⟨fa.nd,List.nodup_cons.mpr ⟨(fun z=>nomatch z),List.nodup_nil⟩,fun x hx y hy e=>?_⟩
    rw [List.mem_singleton.mp hy] at e
    obtain ⟨k,hk,rfl⟩:=List.mem_iff_getElem.mp hx
    have:=fa.row k (by rw [← fa.len]; exact hk)
    rw [List.getD_eq_getElem?_getD,List.getElem?_eq_getElem hk] at this
    rw [show (some bs[k]).getD 0 = bs[k] from rfl,e,hb] at this
    cases this
   ·intro z
    rcases List.mem_append.mp z with z | z
    ·exact fa.nl z
    ·exact nbD (List.mem_singleton.mp z).symm
   ·intro c hc
    rcases List.mem_append.mp hc with z | z
    ·exact fa.fr c z
    ·rw [List.mem_singleton.mp z]; exact sm.free hb
   ·intro h hh
    by_cases c : h < i
    ·have e : (bs ++ [b]).getD h 0 = bs.getD h 0:=by rw [List.getD_eq_getElem?_getD,List.getD_eq_getElem?_getD,List.getElem?_append_left (by rw [fa.len]; exact c)]
     rw [e]
     exact keep _ _ _ (s2 _ _ (fa.row h c)) (fun z=>fa.nl (z ▸ lN (by rw [fa.len]; exact c)))
    ·have e : h = bs.length:=by rw [fa.len]; omega
     subst e
     have e : (bs ++ [b]).getD bs.length 0 = b:=by rw [List.getD_eq_getElem?_getD,List.getElem?_append_right (Nat.le_refl _),Nat.sub_self]; rfl
     rw [e]
     exact keep _ _ _ aD nbD
  ·rintro ys σ H2 ⟨_,sm,bs,rfl,fa⟩
   have zlen : zs.length ≤ 256:=by have:=fi.len; rw [bK] at this; exact this
   refine ⟨_,rfl,l,rfl,⟨_,SqL.of (sm _ _ hl)⟩,eT (K:=K) (xs:=zr zs) (fun i σ H3=>(∃ a b,σ = [some (.int n),some (.ref l),some (.ref D),a,b])∧Same H H3∧mJ H H3 D bs n (fun h=>stp n ((zp zs).take i) h)) ⟨⟨_,_,rfl⟩,sm,fa⟩ (fun i σ H3 _ z=>SqL.of (z.2.1 _ _ hl)) ?_ ?_⟩
   ·rintro i x σ H3 hx ⟨⟨a,b,rfl⟩,sm3,fa3⟩
    obtain ⟨z,hz,rfl⟩:=jH hx
    have hzm : z.2∈zp zs:=List.mem_map.mpr ⟨z,List.mem_of_getElem? hz,rfl⟩
    have ha:=sm3 _ _ (po z (List.mem_of_getElem? hz))
    have rg:=fi.rg _ hzm
    obtain ⟨h,hh,eh⟩ : ∃ h : Nat,h < n∧z.2.1 = (h : Int):=⟨z.2.1.toNat,by omega,by omega⟩
    have gb : (bs.map V.ref)[h]? = some (.ref (bs.getD h 0)):=by
     rw [List.getElem?_map,List.getD_eq_getElem?_getD,List.getElem?_eq_getElem (by rw [fa3.len]; exact hh)]; rfl
    have rw3:=fa3.row h hh
    have sl : (stp n ((zp zs).take i) h).length ≤ 256:=by
     unfold stp; rw [List.length_map]
     refine Nat.le_trans (List.length_filter_le _ _) (Nat.le_trans (List.length_take_le' _ _) (by rw [bK]; exact zlen))
    refine ⟨_,_,rfl,SqT.of ha,rfl,_,_,rfl,_,_,rfl,rfl,?_⟩
    rw [eh]
    refine ⟨_,rfl,_,rfl,D,_,_,_,rfl,rfl,SqL.of fa3.at_,aW gb,.inl ⟨rfl,_,SqL.of rw3⟩,_,rfl,_,rfl,_,_,rfl,rfl,_,rfl,_,_,rfl,rfl,(by show (0 : Int) < (n : Int); omega),_,_,_,rfl,rfl,rw3,by rw [List.length_map]; exact Nat.lt_of_le_of_lt sl (by decide),⟨_,_,rfl⟩,?_,?_⟩
    ·intro c o e
     rw [aH (by rintro rfl; rw [fa3.fr _ (lN (by rw [fa3.len]; exact hh))] at e; cases e)]
     exact sm3 _ _ e
    ·have e2 : (zp zs)[i]? = some z.2:=by unfold zp; rw [List.getElem?_map,hz]; rfl
     have es : ∀ k,stp n ((zp zs).take (i + 1)) k = stp n ((zp zs).take i) k ++ (if z.2.1 = (k : Int) then [(z.2.2 - z.2.1) % (n : Int)] else []):=fun k=>by
      unfold stp
      rw [List.take_add_one,e2,Option.toList_some,List.filter_append,List.map_append,List.filter_cons]
      by_cases c : z.2.1 = (k : Int)
      ·rw [if_pos (decide_eq_true c),if_pos c]; rfl
      ·rw [if_neg (by simpa using c),if_neg c]; rfl
     have:=mJ.put (g':=fun h=>stp n ((zp zs).take (i + 1)) h) fa3 hh (es h) (fun k hk=>by rw [es k,if_neg (by rw [eh]; omega),List.append_nil])
     rw [if_pos eh,eh] at this
     unfold IV at this ⊢
     rw [List.map_append] at this
     exact this
   ·rintro σ H3 ⟨⟨a,b,rfl⟩,sm3,fa3⟩
    rw [dB,← bK,List.take_length] at fa3
    have hDH:=hD
    refine ⟨_,rfl,n,rfl,by omega,by omega,fun R hR=>?_⟩
    refine cV (n:=n) (lo:=0) (fun i ys σ H4=>(∃ a,σ = [a,some (.int n),some (.ref D)])∧Same H3 H4∧∃ cs : List Addr,ys = cs.map V.ref∧(∀ c∈cs,c ≠ R∧H c = none)∧Holds H4 cs i (fun h=>.lst (NV (outN n (zp zs) h)))∧H4 R = some (.lst ys)) ⟨⟨_,rfl⟩,aF hR,[],rfl,(fun _ h=>nomatch h),Holds.nil,aD⟩ ?_ ?_
    ·rintro i ys σ H4 Kt Kf hi ⟨⟨a,rfl⟩,sm4,cs,rfl,hcR,hc,hR4⟩ kt kf
     have gb : (bs.map V.ref)[i]? = some (.ref (bs.getD i 0)):=by
      rw [List.getElem?_map,List.getD_eq_getElem?_getD,List.getElem?_eq_getElem (by rw [fa3.len]; exact hi)]; rfl
     rw [Int.zero_add]
     refine ⟨_,rfl,_,rfl,D,_,_,_,rfl,rfl,SqL.of (sm4 _ _ fa3.at_),aW gb,_,stp n (zp zs) i,rfl,SqL.of (sm4 _ _ (fa3.row i hi)),Nat.lt_of_le_of_lt (xE fi) (by decide),fun S ns hS pm so=>?_⟩
     have en:=aDy fi hi pm so
     have s5:=aF (o:=.lst (ns.map V.int)) hS
     have gS : (upd H4 S (.lst (ns.map V.int))) S = some (.lst (ns.map V.int)):=aD
     have nl : ns.length ≤ 8:=by rw [pm.length_eq]; exact xE fi
     generalize upd H4 S _ = H5 at *
     refine ⟨S,rfl,⟨_,SqL.of gS⟩,fun D6 hD6=>?_⟩
     refine cQ (xs:=ns.map V.int) (fun j ys σ H6=>(∃ a,σ = [a,some (.int (i : Int)),some (.int n)])∧Same H5 H6∧H6 D6 = some (.lst ys)∧ys = NV ((outN n (zp zs) i).take j)) ⟨⟨_,rfl⟩,aF hD6,aD,rfl⟩ (fun j ys σ H6 _ z=>SqL.of (z.2.1 _ _ gS)) ?_ ?_
     ·rintro j x ys σ H6 Kt' Kf' hx ⟨⟨a,rfl⟩,sm6,hD6',rfl⟩ kt' kf'
      rw [en,List.map_map,List.getElem?_map] at hx
      cases eo : (outN n (zp zs) i)[j]? with
      | none=>rw [eo] at hx; cases hx
      | some o =>
       rw [eo] at hx
       obtain rfl:=(Option.some.inj hx)
       obtain ⟨st,hst,est⟩:=aBf (List.mem_of_getElem? eo)
       have ek : key n i o = (st : Int):=by rw [← est]; exact eO hi hst
       have hj : j < (outN n (zp zs) i).length:=(List.getElem?_eq_some_iff.mp eo).1
       have ol : (outN n (zp zs) i).length ≤ n:=Nat.le_trans (List.length_filter_le _ _) (by simp)
       show bE 0 (V.int (key n i o)) _ H6 _
       rw [ek]
       refine ⟨_,rfl,_,rfl,_,_,rfl,rfl,_,rfl,_,_,rfl,rfl,(by show (0 : Int) < (n : Int); omega),kt' _ _ _ hD6' (by rw [aN]; exact Nat.lt_of_le_of_lt (List.length_take_le _ _) (Nat.lt_of_lt_of_le (show j < 33 by omega) (by decide))) ⟨⟨_,rfl⟩,bP sm6 hD6,aD,?_⟩⟩
       have ev : ((i : Int) + (st : Int)) % (n : Int) = (o : Int):=by rw [← est]; rfl
       show NV _ ++ [.int (((i : Int) + (st : Int)) % (n : Int))] = _
       rw [ev,dW,List.take_add_one,eo]; rfl
     ·rintro ys σ H6 ⟨_,sm6,hD6',rfl⟩
      have el : (ns.map V.int).length = (outN n (zp zs) i).length:=by rw [List.length_map,en,List.length_map]
      rw [el,List.take_length] at hD6'
      have hR6:=sm6 _ _ (s5 _ _ hR4)
      have nR : D6 ≠ R:=by rintro rfl; rw [s5 _ _ hR4] at hD6; cases hD6
      have keepR : ∀ c o ys',H6 c = some o→c ≠ R→(upd H6 R ys') c = some o:=fun c o ys' e h=>by rw [aH h]; exact e
      refine kt _ _ _ hR6 (by rw [List.length_map,hc.1]; exact Nat.lt_of_lt_of_le (show i < 33 by omega) (by decide)) ⟨⟨_,rfl⟩,bP ((sm4.trans s5).trans sm6) hR,cs ++ [D6],by rw [List.map_append]; rfl,?_,?_,aD⟩
      ·intro c hc'
       rcases List.mem_append.mp hc' with z | z
       ·exact hcR c z
       ·rw [List.mem_singleton.mp z]; exact ⟨nR,((sm3.trans sm4).trans s5).free hD6⟩
      ·refine Holds.snoc (hc.mono fun j hj e=>keepR _ _ _ (sm6 _ _ (s5 _ _ e)) (hcR _ ?_).1) (keepR _ _ _ hD6' nR)
       rw [List.getD_eq_getElem?_getD,List.getElem?_eq_getElem (by rw [hc.1]; exact hj)]; exact List.getElem_mem _
    ·rintro ys σ H4 ⟨_,sm4,cs,rfl,hcR,hc,hR4⟩
     exact q R H4 (sm3.trans sm4) (sm3.free hR) ⟨cs,hR4,fun c hc'=>(hcR c hc').2,hc⟩
end
end K12
namespace K12
open PySem L2 NetM
theorem aBh {e : V→V→Bool} : ∀ {xs : List V},dY e xs [] = decide (xs = [])
 | []=>rfl
 | x :: xs=>by simp [dY]
theorem xF {K : W.Frag} {a D : Addr} {xs : List Nat} {g : TG} {tt : TT} {te : TE} {fin : Hp→Prop} {σB : St} {H0 : Hp} (c : Nat→Bool) (shape : St→Prop) (ha : H0 a = some (.lst (NV xs))) (hD : H0 D = none) (hn : xs.length ≤ 1000) (h0 : shape σB)
  (hs : ∀ x σ H (Kt : V→St→Hp→Prop) (Kf : St→Hp→Prop),x∈xs→shape σ→Same H0 H→(∀ σ2 H2,shape σ2→Same H H2→c x = true→Kt (.int (x : Nat)) σ2 H2)→(∀ σ2 H2,shape σ2→Same H H2→c x = false→Kf σ2 H2) →
   g (.int (x : Nat)) σ H fun σ2 H2=>tt σ2 H2 fun b H3=>if b = true then te σ2 H3 fun v H4=>Kt v σ2 H4 else Kf σ2 H3)
  (hd : ∀ H,Same H0 H→H D = some (.lst (NV (xs.filter c)))→fin H) : gC (Itl K a) g tt te D fin σB (upd H0 D (.lst [])):=by
 refine cQ (xs:=NV xs) (fun i ys σ H=>shape σ∧Same H0 H∧H D = some (.lst ys)∧ys = NV ((xs.take i).filter c)) ⟨h0,aF hD,aD,rfl⟩ (fun i ys σ H _ z=>SqL.of (z.2.1 _ _ ha)) ?_ ?_
 ·rintro i x ys σ H Kt Kf hx ⟨sh,sm,hDl,rfl⟩ kt kf
  obtain ⟨z,hz,rfl⟩:=eR hx
  have hi : i < xs.length:=(List.getElem?_eq_some_iff.mp hz).1
  have tk : xs.take (i + 1) = xs.take i ++ [z]:=by rw [List.take_add_one,hz]; rfl
  refine hs z σ H Kt Kf (List.mem_of_getElem? hz) sh sm (fun σ2 H2 sh2 s2 e=>?_) (fun σ2 H2 sh2 s2 e=>?_)
  ·refine kt _ _ _ (s2 _ _ hDl) ?_ ⟨sh2,bP (sm.trans s2) hD,aD,?_⟩
   ·rw [aN]
    exact Nat.lt_of_le_of_lt (List.length_filter_le _ _) (Nat.lt_of_le_of_lt (List.length_take_le _ _) (Nat.lt_of_lt_of_le (show i < 1000 by omega) (by decide)))
   ·rw [tk,List.filter_append,dW]
    simp [List.filter_cons,e]
  ·refine kf _ _ ⟨sh2,sm.trans s2,s2 _ _ hDl,?_⟩
   rw [tk,List.filter_append]
   simp [List.filter_cons,e]
 ·rintro ys σ H ⟨_,sm,hDl,rfl⟩
  rw [aN,List.take_length] at hDl
  exact hd H sm hDl
abbrev pE : Stmt:=top 54
theorem nbFa : (["_law_other", "_law_far", "_law_further"] : List Str).Nodup:=by decide +kernel
theorem nbFb : (["_law_other", "_law_far"] : List Str).Nodup:=by decide +kernel
theorem aCv {x : Nat} : ∀ {xs : List Nat},inV (.int (x : Int)) (NV xs) = decide (x∈xs)
 | []=>rfl
 | y :: ys=>by
  have ih:=aCv (x:=x) (xs:=ys)
  unfold inV NV at *
  rw [List.map_cons,List.any_cons,ih]
  by_cases e : y = x
  ·subst e; simp [eqV]
  ·have e' : ¬ x = y:=fun z=>e z.symm
   have e2 : ¬ (y : Int) = (x : Int):=fun z=>e (Int.ofNat.inj z)
   have e3 : ¬ (x : Int) = (y : Int):=fun z=>e' (Int.ofNat.inj z)
   simp [eqV,e',e2,e3]
theorem xG : ∀ {xs : List Nat},(NV xs).all dX = true
 | []=>rfl
 | y :: ys=>by unfold NV; rw [List.map_cons,List.all_cons]; exact Bool.and_eq_true_iff.mpr ⟨rfl,xG (xs:=ys)⟩
noncomputable def dkv (ts : Ts) (s : Nat) (xs : List Nat) : List (Key × V):=xs.map fun (x : Nat)=>(Sum.inl (x : Int),V.int ((far ts s x : Nat) : Int))
theorem qO {ts : Ts} {s : Nat} {xs : List Nat} : (dkv ts s xs).length = xs.length:=List.length_map _
theorem jN {ts : Ts} {s x : Nat} : ∀ {xs : List Nat},valV (dkv ts s xs) (Sum.inl (x : Int)) = if x∈xs then some (.int ((far ts s x : Nat) : Int)) else none
 | []=>rfl
 | y :: ys=>by
  unfold dkv
  rw [List.map_cons]
  by_cases e : y = x
  ·subst e
   rw [jW rfl,if_pos List.mem_cons_self]
  ·have e2 : ¬ ((Sum.inl (y : Int) : Key) = Sum.inl (x : Int)):=fun z=>e (Int.ofNat.inj (Sum.inl.inj z))
   rw [jX e2]
   have ih:=jN (ts:=ts) (s:=s) (x:=x) (xs:=ys)
   unfold dkv at ih
   rw [ih]
   by_cases h : x∈ys
   ·rw [if_pos h,if_pos (List.mem_cons_of_mem _ h)]
   ·rw [if_neg h,if_neg (fun z=>(List.mem_cons.mp z).elim (fun q=>e q.symm) h)]
theorem aDz {ts : Ts} {s x : Nat} {xs : List Nat} (h : x ∉ xs) : putK (dkv ts s xs) (Sum.inl (x : Int)) (.int ((far ts s x : Nat) : Int)) = dkv ts s (xs ++ [x]):=by
 rw [aBG _ (by rw [jN,if_neg h])]
 unfold dkv
 rw [List.map_append]; rfl
def muF (n : Nat) (D : Addr) (σ : St) (H : Hp) : Nat:=2 * (n - (match H D with | some (.dK kvs)=>kvs.length | _=>0)) + (match σ[3]? with
 | some (some (V.ref l))=>(match H l with | some (.lst [])=>0 | _=>1)
 | _=>1)
theorem aBi {n : Nat} {D l : Addr} {σ : St} {H : Hp} {kvs : List (Key × V)} {xs : List V} (h1 : H D = some (.dK kvs)) (h2 : σ[3]? = some (some (.ref l))) (h3 : H l = some (.lst xs)) : muF n D σ H = 2 * (n - kvs.length) + (if xs = [] then 0 else 1):=by
 unfold muF
 rw [h1,h2]
 dsimp only
 rw [h3]
 cases xs with
 | nil=>rfl
 | cons x xs=>simp
section
variable {P : Program} {w : World} {K : W.Frag} {mg : Str→Option Value} {base : Heap}
theorem iM : aM ["_law_leads_here", "_law_house", "_law_far", "_law_layer", "_law_further", "_law_one", "_law_other"] ["_law_leads_here", "_law_house"] (aG pE):=⟨rfl,rfl,rfl,by decide +kernel,rfl,by decide +kernel,by decide +kernel⟩
def pF : Sp:=fun vs H Q _=>∃ (ol : Addr) (n s : Nat) (ts : Ts),vs = [.ref ol,.int s]∧Fine n ts∧s < n∧jJ H ol n ts∧∀ (r : Addr) (H' : Hp),Same H H'→H r = none→H' r = some (.lst (NV ((List.range n).map (far ts s))))→Q (.ref r) H'
theorem aDA {f : Addr} {fd : FuncData} (F : Fun K "_law_fars" "_law_fars" pE f fd) (B : Bl mg) : FnOk P w K mg base CX0 1 f fd ["_law_leads_here", "_law_house"] pF:=by
 refine F.ok iM (fun vs H Q E h=>?_) (fun cdv A outer s H vs Q E hr h=>?_)
 ·obtain ⟨ol,n,st,ts,rfl,_⟩:=h
  rfl
 ·obtain ⟨ol,n,st,ts,rfl,fi,hs,O,k⟩:=h
  have n1:=fi.n1
  have n2:=fi.n2
  have hu : (A.deeper (PyProof.Rows.envOfC "_law_fars" (aG pE) s.heap.objs.size f cdv)).units + 2 < cLine:=by have:=hr.un; omega
  have hu1 : (A.deeper (PyProof.Rows.envOfC "_law_fars" (aG pE) s.heap.objs.size f cdv)).units + 1 < cLine:=by omega
  refine' ⟨_,aE (aS (i:=2) iM.nd rfl (Or.inr rfl) (aCU (aBI (pv 1) aK aCT) rfl rfl (by simp) (by decide)))
   (aE (aS (i:=3) iM.nd rfl (Or.inl rfl) (cT (aA (pv 1) aB)))
   (aE (sF PassesOwn.never (bA (aDY (e:=eqV) hu) (pv 3) (cT aB) (bB _))
    (aE (aS (i:=4) iM.nd rfl (Or.inr rfl) (cT aB))
    (aE (cJ PassesOwn.never rfl (bX (pv 3)) (aL (i:=5) iM.nd rfl (Or.inl rfl))
     (aI (cH (gB PySem.F.plainAttrs_list PySem.F.slot_list_extend PySem.F.type_list_extend zX (pv 4) (aA ?c1 aB)))))
    (aE (cJ PassesOwn.never rfl (bX (pv 4)) (aL (i:=6) iM.nd rfl (Or.inl rfl))
     (aI (aCS hu1 (pv 2) (pv 6) (aV cZ (wG hu1 (pv 2) (bL aX (pv 3) aK (fun _ _=>rfl)) (fun _ _=>rfl)) aK) rfl)))
    (aI (aS (i:=3) iM.nd rfl (Or.inl rfl) (pv 4)))))))
   (aI (aU ?c2)))),?_⟩
  case c1 =>
   refine' cC (g:=bE 0) (tt:=tAnd (tB (wF (tVar 0) (tVar 1))) (nX (tOp (rIn K true) (tVar 0) (tVar 2)))) (te:=tVar 0) (NB:=["_law_other", "_law_far", "_law_further"]) (src:=[none,some 2,some 4]) (bU (by kernel_rfl)) rfl (bX (bL aX (pv 0) (pv 5) (fun _ _=>rfl))) ?g ?t ?e
   case g=>exact fun cl C s₃ H₃ fp=>aL (i:=0) nbFa rfl (Or.inl rfl) (Or.inr rfl)
   case t=>exact fun cl C s₃ H₃ fp=>hJ (PW.pt (aDI (aDH (aAA hu1 (pv 0) (pv 1))) (aCy (bA sQ (pv 0) (pv 2) rfl))))
   case e=>exact fun cl C s₃ H₃ fp=>pv 0
  case c2 =>
   refine' cC (g:=bE 0) (te:=aCl (tVar 1) (tVar 0)) (NB:=["_law_other", "_law_far"]) (src:=[none,some 2]) (bU (by kernel_rfl)) rfl (cA rfl B.range (aA (aO bV (by rfl) B.len PySem.boot_len (aA (pv 0) aB)) aB)) ?g ?t ?e
   case g=>exact fun cl C s₃ H₃ fp=>aL (i:=0) nbFb rfl (Or.inl rfl) (Or.inr rfl)
   case t=>exact fun cl C s₃ H₃ fp=>cF
   case e=>exact fun cl C s₃ H₃ fp=>wG hu1 (pv 1) (pv 0) (fun _ _=>rfl)
  obtain ⟨bs,hol,hbl,hbs⟩:=id O
  refine fun D hD=>⟨_,rfl,aD,[(Sum.inl (st : Int),.int 0)],rfl,by show 1 ≤ 15; decide,?_⟩
  rw [fL]
  have e0 : jD [] [(Sum.inl (st : Int),V.int 0)] = dkv ts st [st]:=by
   unfold dkv
   rw [List.map_cons,tP]; rfl
  rw [e0]
  have smD : Same H (upd H D (.dK (dkv ts st [st]))):=aF hD
  refine ⟨_,rfl,by show 1 ≤ sizeLine; decide,fun L0 hL0=>?_⟩
  have nDL0 : D ≠ L0:=aJ (H:=upd H D (.dK (dkv ts st [st]))) aD hL0
  refine sG (fun σ Hc=>∃ (d : Nat) (xs ls : List Nat) (L : Addr),Lay n ts st d xs ls∧(∃ a b c,σ = [some (.ref ol),some (.int st),some (.ref D),some (.ref L),a,b,c])∧Same H Hc∧H L = none∧L ≠ D∧Hc D = some (.dK (dkv ts st xs))∧Hc L = some (.lst (NV ls))) (muF n D)
   ⟨0,[st],[st],L0,Lay.start fi hs,⟨none,none,none,rfl⟩,smD.trans (aF hL0),smD.free hL0,nDL0.symm,by rw [aH nDL0,aD],aD⟩ ?_ ?_
  ·rintro σ Hc ⟨d,xs,ls,L,Ly,⟨a,b,c,rfl⟩,sc,hLH,nLD,hDc,hLc⟩
   refine ⟨_,rfl,by show 0 ≤ sizeLine; decide,fun E1 hE1=>?_⟩
   have sE:=aF (o:=.lst []) hE1
   refine ⟨L,E1,_,[],rfl,rfl,SqL.of (sE _ _ hLc),SqL.of aD,fun i h1 h2=>absurd h2 (by simp),_,rfl,?_⟩
   rw [if_pos rfl,aBh]
   have sc1 : Same H (upd Hc E1 (.lst [])):=sc.trans sE
   have hD1:=sE _ _ hDc
   have hL1:=sE _ _ hLc
   have mu0 : muF n D [some (.ref ol),some (.int st),some (.ref D),some (.ref L),a,b,c] Hc = 2 * (n - (dkv ts st xs).length) + (if NV ls = [] then 0 else 1):=aBi hDc rfl hLc
   generalize upd Hc E1 (.lst []) = H1 at *
   by_cases hls : NV ls = []
   ·rw [decide_eq_true hls]
    refine iteF ?_
    have hls' : ls = []:=List.map_eq_nil_iff.mp hls
    subst hls'
    refine ⟨_,rfl,ol,_,rfl,.inl (SqL.of (sc1 _ _ hol)),n,by rw [List.length_map,hbl],by omega,by omega,fun R hR=>?_⟩
    refine cV (n:=n) (lo:=0) (fun i ys σ H2=>(∃ a,σ = [a,some (.ref D)])∧Same H1 H2∧H2 R = some (.lst ys)∧ys = NV ((List.range i).map (far ts st))) ⟨⟨_,rfl⟩,aF hR,aD,rfl⟩ ?_ ?_
    ·rintro i ys σ H2 Kt Kf hi ⟨⟨a',rfl⟩,sm2,hR2,rfl⟩ kt kf
     refine ⟨_,rfl,_,rfl,D,.int ((far ts st i : Nat) : Int),rfl,?_,kt _ _ _ hR2 ?_ ⟨⟨_,rfl⟩,bP sm2 hR,aD,?_⟩⟩
     ·have:=DGet.k (k:=Sum.inl (i : Int)) (sm2 _ _ hD1)
      rw [jN,if_pos (Ly.done fi hs hi)] at this
      rw [Int.zero_add]
      exact this
     ·rw [aN,List.length_map,List.length_range]; exact Nat.lt_of_lt_of_le (show i < 33 by omega) (by decide)
     ·rw [dW,List.range_succ,List.map_append]; rfl
    ·rintro ys σ H2 ⟨_,sm2,hR2,rfl⟩
     exact k R H2 (sc1.trans sm2) (sc1.free hR) hR2
   ·rw [decide_eq_false hls]
    refine iteT ?_
    have hls0 : 0 < ls.length:=by
     cases ls with
     | nil=>exact absurd rfl hls
     | cons y ys=>simp
    refine ⟨by show 0 ≤ sizeLine; decide,fun Fu hFu=>?_⟩
    have nDF : D ≠ Fu:=aJ hD1 hFu
    have nLF : L ≠ Fu:=aJ hL1 hFu
    have hFH : H Fu = none:=sc1.free hFu
    have hlslen : ls.length ≤ n:=dG Ly.ndl fun x hx=>((Ly.ml x).mp hx).1
    have hxslen:=Ly.len
    refine ⟨_,rfl,L,rfl,⟨_,SqL.of (by rw [aH nLF]; exact hL1)⟩,eT (K:=K) (xs:=NV ls) (fun j σ H2=>∃ fs : List Nat,Fur n ts xs ls j fs∧(∃ a b,σ = [some (.ref ol),some (.int st),some (.ref D),some (.ref L),some (.ref Fu),a,b])∧Same H1 H2∧H2 Fu = some (.lst (NV fs)))
     ⟨[],Fur.start,⟨_,_,rfl⟩,aF hFu,aD⟩ (fun j σ H2 _ ⟨_,_,_,sm2,_⟩=>SqL.of (sm2 _ _ hL1)) ?_ ?_⟩
    ·rintro j x σ H2 hx ⟨fs,Fr,⟨a',b',rfl⟩,sm2,hF2⟩
     obtain ⟨u,hu',rfl⟩:=eR hx
     have hun : u < n:=((Ly.ml u).mp (List.mem_of_getElem? hu')).1
     have hb1 : (bs.map V.ref)[u]? = some (.ref (bs.getD u 0)):=by
      rw [List.getElem?_map,List.getD_eq_getElem?_getD,List.getElem?_eq_getElem (by rw [hbl]; exact hun)]; rfl
     have hb2:=sm2 _ _ (sc1 _ _ (hbs _ hun))
     refine ⟨_,rfl,.inl ⟨rfl,_,SqL.of hF2⟩,_,rfl,_,rfl,ol,_,_,_,rfl,rfl,SqL.of (sm2 _ _ (sc1 _ _ hol)),aW hb1,_,rfl,⟨_,SqL.of hb2⟩,fun D1 hD1'=>?_⟩
     have hol' : (outN n ts u).length ≤ 32:=Nat.le_trans (Nat.le_trans (List.length_filter_le _ _) (by simp)) n2
     refine xF (fun o=>!decide (o∈xs) && !decide (o∈fs)) (fun σ=>∃ a,σ = [a,some (.ref D),some (.ref Fu)]) hb2 hD1' (by omega) ⟨_,rfl⟩ ?_ ?_
     ·rintro v σ H3 Kt Kf hv ⟨a'',rfl⟩ sm3 kt kf
      have hg:=DGet.k (k:=Sum.inl (v : Int)) (sm3 _ _ (sm2 _ _ hD1))
      refine ⟨_,rfl,_,rfl,D,_,rfl,hg,_,rfl,?_⟩
      rw [jN]
      by_cases h1 : v∈xs
      ·rw [if_pos h1]
       exact iteF (kf _ _ ⟨_,rfl⟩ (Same.refl _) (by simp [h1]))
      ·rw [if_neg h1]
       refine iteT ?_
       refine ⟨_,rfl,_,rfl,Fu,_,rfl,.inl (SqL.of (sm3 _ _ hF2)),rfl,xG,_,rfl,?_⟩
       rw [if_pos rfl,aCv]
       by_cases h2 : v∈fs
       ·rw [decide_eq_true h2]
        exact iteF (kf _ _ ⟨_,rfl⟩ (Same.refl _) (by simp [h2]))
       ·rw [decide_eq_false h2]
        exact iteT ⟨_,rfl,kt _ _ ⟨_,rfl⟩ (Same.refl _) (by simp [h1,h2])⟩
     ·intro H3 sm3 hD3
      have hF3:=sm3 _ _ hF2
      have Fr':=Fr.step fi hu' hun
      have hfl : (fs ++ (outN n ts u).filter fun o=>!decide (o∈xs) && !decide (o∈fs)).length ≤ n:=dG Fr'.nd fun x hx=>let ⟨u',hu'',t⟩:=Fr'.from_ x hx; (fi.tlt t).2.1
      rw [List.length_append] at hfl
      refine ⟨Fu,D1,_,_,rfl,rfl,hF3,hD3,?_,_,Fr',⟨_,_,rfl⟩,bP (sm2.trans sm3) hFu,?_⟩
      ·rw [aN,aN]
       exact Nat.le_trans hfl (Nat.le_trans n2 (by decide))
      ·rw [aD]; unfold NV; rw [List.map_append]
    ·rintro σ H2 ⟨fs,Fr,⟨a',b',rfl⟩,sm2,hF2⟩
     rw [aN] at Fr
     have Ly':=Ly.next fi hs Fr
     have hlen':=Ly'.len
     rw [List.length_append] at hlen'
     have hl0 : (NV ls)[0]? = some (.int ((ls[0] : Nat) : Int)):=aAS hls0
     have hd0 : far ts st ls[0] = d:=((Ly.ml ls[0]).mp (List.getElem_mem hls0)).2
     have hx0 : ls[0]∈xs:=(Ly.mx ls[0]).mpr ⟨((Ly.ml ls[0]).mp (List.getElem_mem hls0)).1,by omega⟩
     generalize ls[0]'hls0 = v0 at hl0 hd0 hx0
     refine ⟨_,rfl,Fu,rfl,⟨_,SqL.of hF2⟩,eT (K:=K) (xs:=NV fs) (fun j σ H3=>(∃ a b,σ = [some (.ref ol),some (.int st),some (.ref D),some (.ref L),some (.ref Fu),a,b])∧aP D H1 H3∧H3 Fu = some (.lst (NV fs))∧H3 D = some (.dK (dkv ts st (xs ++ fs.take j))))
      ⟨⟨_,_,rfl⟩,aP.of sm2,hF2,by rw [List.take_zero,List.append_nil]; exact sm2 _ _ hD1⟩ (fun j σ H3 _ z=>SqL.of z.2.2.1) ?_ ?_⟩
     ·rintro j x σ H3 hx ⟨⟨a'',b'',rfl⟩,sm3,hF3,hD3⟩
      obtain ⟨v,hv,rfl⟩:=eR hx
      have hj : j < fs.length:=(List.getElem?_eq_some_iff.mp hv).1
      have tk : fs.take (j + 1) = fs.take j ++ [v]:=by rw [List.take_add_one,hv]; rfl
      have hvf : v∈fs:=List.mem_of_getElem? hv
      have hvd : far ts st v = d + 1:=((Ly'.ml v).mp hvf).2
      have hvn : v ∉ xs ++ fs.take j:=by
       intro z
       rcases List.mem_append.mp z with z | z
       ·exact Fr.nx v hvf z
       ·have nd1 : (fs.take j ++ [v]).Nodup:=by rw [← tk]; exact Fr.nd.sublist (List.take_sublist _ _)
        exact (List.nodup_append.mp nd1).2.2 v z v (by simp) rfl
      have hg:=DGet.k (k:=Sum.inl (v0 : Int)) hD3
      rw [jN,if_pos (List.mem_append_left _ hx0),hd0] at hg
      refine ⟨_,rfl,_,rfl,L,_,_,_,rfl,rfl,SqL.of (sm3 _ _ hL1 nLD),aW hl0,D,_,rfl,hg,_,_,rfl,rfl,_,rfl,_,rfl,D,_,rfl,DPut.k (k:=Sum.inl (v : Int)) hD3 ?_,⟨_,_,rfl⟩,sm3.trans aP.upd,?_,?_⟩
      ·rw [qO,List.length_append,List.length_take]
       exact Nat.lt_of_lt_of_le (show _ < 100 by omega) (by decide)
      ·rw [aH nDF.symm]; exact hF3
      ·rw [aD,tk,← List.append_assoc,← aDz hvn,hvd]
       rfl
     ·rintro σ H3 ⟨⟨a'',b'',rfl⟩,sm3,hF3,hD3⟩
      rw [aN,List.take_length] at hD3
      have sH : Same H H3:=fun b o e=>sm3 _ _ (sc1 _ _ e) (by rintro rfl; rw [hD] at e; cases e)
      refine ⟨_,rfl,⟨⟨d + 1,xs ++ fs,fs,Fu,Ly',⟨_,_,_,rfl⟩,sH,hFH,nDF.symm,hD3,hF3⟩,?_⟩⟩
      rw [mu0,aBi hD3 rfl hF3,qO,qO,List.length_append,if_neg hls]
      by_cases hf : NV fs = []
      ·have : fs = []:=List.map_eq_nil_iff.mp hf
       subst this
       simp
      ·have : 0 < fs.length:=by
        cases fs with
        | nil=>exact absurd rfl hf
        | cons y ys=>simp
       rw [if_neg hf]
       omega
  ·rintro σ Hc Q1 Q2 imp ⟨v,e1,z,h⟩
   refine ⟨v,e1,z,fun L' hL'=>?_⟩
   obtain ⟨p',q',xs',ys',a1,a2,a3,a4,a5,kk,ek,qq⟩:=h L' hL'
   exact ⟨p',q',xs',ys',a1,a2,a3,a4,a5,kk,ek,imp _ _ qq⟩
end
end K12
namespace K12
open PySem L2 NetM
abbrev pG : Stmt:=top 55
theorem aE2 : (["_law_house", "_law_net"] : List Str).Nodup:=by decide +kernel
theorem nbHL : (["_law_house", "_law_leads_here"] : List Str).Nodup:=by decide +kernel
theorem nbTF : (["_law_there", "_law_fars_here", "_law_home", "_law_house"] : List Str).Nodup:=by decide +kernel
theorem nbLR : (["_law_row"] : List Str).Nodup:=by decide +kernel
theorem nout (n : Int) (tl ol ds : Addr) : (flds n tl ol ds).lookup ("out" : Str) = none:=eY n tl ol ds (by decide +kernel) (by decide +kernel) (by decide +kernel) (by decide +kernel)
theorem aE3 (n : Int) (tl ol ds : Addr) : (flds n tl ol ds).lookup ("good" : Str) = none:=eY n tl ol ds (by decide +kernel) (by decide +kernel) (by decide +kernel) (by decide +kernel)
theorem aE4 (n : Int) (tl ol ds : Addr) : (flds n tl ol ds).lookup ("span" : Str) = none:=eY n tl ol ds (by decide +kernel) (by decide +kernel) (by decide +kernel) (by decide +kernel)
theorem lH.uniq {n : Nat} {ts : Ts} {M M' : Nat} (a : lH n ts M) (b : lH n ts M') : M = M':=by
 obtain ⟨⟨i,j,hi,hj,e⟩,h⟩:=a
 obtain ⟨⟨i',j',hi',hj',e'⟩,h'⟩:=b
 have:=h i' j' hi' hj'
 have:=h' i j hi hj
 omega
theorem aBj {n : Nat} {ts us : Ts} (p : us.Perm ts) {h : Nat} : outN n us h = outN n ts h:=by
 unfold outN
 refine List.filter_congr fun o _=>?_
 exact decide_eq_decide.mpr (by unfold T; exact p.mem_iff)
theorem aCb {n : Nat} {ts us : Ts} (F : Fine n ts) (p : us.Perm ts) {a b : Nat} (ha : a < n) (hb : b < n) : far us a b = far ts a b :=
 oR ⟨(F.fars ha hb).1.mono fun t ht=>p.mem_iff.mpr ht,fun k w=>(F.fars ha hb).2 k (w.mono fun t ht=>p.mem_iff.mp ht)⟩
theorem cI.congr {H : Hp} {L : Addr→Prop} {l : Addr} {n : Nat} {r r' : Nat→List Nat} (R : cI H L l n r) (e : ∀ h,h < n→r' h = r h) : cI H L l n r' :=
 let ⟨bs,a,b,c⟩:=R; ⟨bs,a,b,c.1,fun h hh=>by show H _ = some (.lst (NV (r' h))); rw [e h hh]; exact c.2 h hh⟩
theorem cD.perm {C : Addr} {H : Hp} {L : Addr→Prop} {p : Addr} {n : Nat} {ts us : Ts} (N : cD C H L p n ts) (pm : us.Perm ts) : cD C H L p n us :=
 let ⟨dx,tl,ol,ds,a,l1,l2,b,c,d1,zs,d2,d3,d4,d5,d6⟩:=N.ob
 ⟨N.fine.perm pm,dx,tl,ol,ds,a,l1,l2,b.congr fun h _=>aBj pm,c.congr fun h hh=>List.map_congr_left fun x hx=>aCb N.fine pm hh (List.mem_range.mp hx),d1,zs,d2,d3,d4,d5.trans pm.symm,d6⟩
theorem cD.keepE {C p : Addr} {H H' : Hp} {L : Addr→Prop} {pn : Addr} {n : Nat} {ts : Ts} (N : cD C H L pn n ts) (s : aP p H H') (hp : bD H p) (hL : ¬ L p) : cD C H' L pn n ts :=
 N.keep (fun b o l e=>s b o e fun z=>hL (z ▸ l)) fun o e=>s _ _ e (by
  obtain ⟨dx,tl,ol,ds,e1,_⟩:=N.ob
  rintro rfl
  obtain ⟨a,b,e2,_⟩:=hp
  rw [e1] at e2; cases e2)
theorem cI.keepE {p : Addr} {H0 H H' : Hp} {l : Addr} {n : Nat} {r : Nat→List Nat} (R : cI H (fun a=>H0 a = none) l n r) (s : aP p H H') (hp : H0 p ≠ none) (hl : l ≠ p) : cI H' (fun a=>H0 a = none) l n r :=
 let ⟨bs,a,b,c⟩:=R
 ⟨bs,s _ _ a hl,b,c.mono fun j hj e=>s _ _ e fun z=>hp (z ▸ b _ (by rw [List.getD_eq_getElem?_getD,List.getElem?_eq_getElem (by rw [c.1]; exact hj)]; exact List.getElem_mem _))⟩
theorem aBk {X : Cx} {H : Hp} {xs : List Nat} {i : Nat} (h : i < (NV xs).length) : EqD X H 0 ((NV xs).getD i .non) ((NV xs).getD i .non):=by
 rw [aN] at h
 rw [List.getD_eq_getElem?_getD,aAS h]
 exact qA
section
variable {P : Program} {w : World} {K : W.Frag} {mg : Str→Option Value} {base : Heap}
theorem gN : aM ["_law_pot_here", "_law_net", "_law_many", "_law_ties", "_law_leads_here", "_law_fars_here", "_law_k", "_law_one", "_law_other", "_law_house", "_law_home", "_law_near"] ["_law_pot_here", "_law_net", "_law_many", "_law_ties"] (aG pG):=⟨rfl,rfl,rfl,by decide +kernel,rfl,by decide +kernel,by decide +kernel⟩
def uW (C : Addr) : Sp:=fun vs H Q _=>∃ (L : Addr→Prop) (p pn : Addr) (n : Nat) (l : Addr) (zs : Zs),vs = [.ref p,.ref pn,.int n,.ref l]∧bD H p∧cD C H L pn n (zp zs)∧cX H l n zs∧¬ L p∧∀ H',aP p H H'→bD H' p→Q (.bl true) H'
theorem aDB {f C CE : Addr} {fd : FuncData} (F : Fun K "_law_as_tied" "_law_as_tied" pG f fd) (B : Bl mg) (T : NT K mg C) (D : Cal P w K mg base CX0 1 "_law_digit" ["_law_pot_here", "_law_many"] eI)
  (LE : Cal P w K mg base CX0 1 "_law_leads" ["_law_many", "_law_ties"] qN) (FA : Cal P w K mg base CX0 1 "_law_fars" ["_law_leads_here", "_law_house"] pF)
  (MO : MCal P w K mg base (CXf P w) 5 C "out" ["self", "house"] (rV K C CE aOut)) (MF : MCal P w K mg base (CXf P w) 5 C "far" ["self", "one", "other"] (rW K C CE)) (MG : MCal P w K mg base (CXf P w) 6 C "good" ["self", "house", "home"] (uD K C CE)) (MS : MCal P w K mg base CX0 1 C "span" ["self"] (uC C)) :
  FnOk P w K mg base CX0 7 f fd ["_law_pot_here", "_law_net", "_law_many", "_law_ties"] (uW C):=by
 obtain ⟨fO,fdO,mO,bO,GO⟩:=MO.ex
 obtain ⟨fF,fdF,mF,bF,GF⟩:=MF.ex
 obtain ⟨fG,fdG,mG,bG,GG⟩:=MG.ex
 obtain ⟨fS,fdS,mS,bS,GS⟩:=MS.ex
 refine F.ok gN (fun vs H Q E h=>?_) (fun cdv A outer s H vs Q E hr h=>?_)
 ·obtain ⟨L,p,pn,n,l,zs,rfl,_⟩:=h
  rfl
 ·obtain ⟨L,p,pn,n,l,zs,rfl,hp,N,TT,hL,k⟩:=h
  have h1 : Room 1 _:=hr.mono (by decide)
  have h5 : Room 5 _:=hr.mono (by decide)
  have hu2 : (A.deeper (PyProof.Rows.envOfC "_law_as_tied" (aG pG) s.heap.objs.size f cdv)).units + (1 + 1) < cLine:=by have:=hr.un; omega
  have hu1 : (A.deeper (PyProof.Rows.envOfC "_law_as_tied" (aG pG) s.heap.objs.size f cdv)).units + (0 + 1) < cLine:=by have:=hr.un; omega
  refine' ⟨_,aE (aS (i:=4) gN.nd rfl (Or.inr rfl) (aQ LE h1 aR (aA (pv 2) (aA (pv 3) aB))))
   (aE (bR (bA (qB (d:=1) hu2) ?c0 (pv 4) (bB _)) bZ aZ)
   (aE (aS (i:=5) gN.nd rfl (Or.inr rfl) ?c1)
   (aE (cJ PassesOwn.never rfl (cA rfl B.range (aA aK aB)) (aL (i:=6) gN.nd rfl (Or.inl rfl))
    (aE (aDK (i:=7) (j:=8) rfl gN.nd rfl rfl (by decide) rfl rfl (aA (aQ D h1 aR (aA (pv 0) (aA (pv 2) aB))) (aA (aQ D h1 aR (aA (pv 0) (aA (pv 2) aB))) aB)) (by rfl))
    (aI (cJ PassesOwn.never rfl (bX (cT (aA (cW (aA (pv 7) (aA (pv 8) aB))) (aA (cW (aA (pv 8) (aA (pv 7) aB))) aB)))) (eL (n:=2) rfl (bQ (aL (i:=9) gN.nd rfl (Or.inr rfl)) (bQ (aL (i:=10) gN.nd rfl (Or.inr rfl)) dS)))
     (aE (fE (i:=11) (g:=bE 0) (tt:=nX (tOp (rI0 fun i j=>.bl (decide (i < j))) (tOp (rIxL K) (tOp (rIxL K) (tVar 1) (tVar 0)) (tVar 2)) (tOp (rIxL K) (tOp (rIxL K) (tVar 1) (tVar 3)) (tVar 2)))) (te:=tVar 0) (NB:=["_law_there", "_law_fars_here", "_law_home", "_law_house"]) (src:=[none,some 5,some 10,some 9]) (bU (by kernel_rfl)) rfl (bX (bL aX (pv 4) (pv 9) (fun _ _=>rfl))) ?g3 ?t3 ?e3 gN.nd rfl rfl rfl)
     (aI (bR (PW.pt (gO (bA lP (fN (pv 1) T.cl mF GF h5 bF .nil oH (aA (pv 9) (aA (pv 10) aB))) (bL aX (bL aX (pv 5) (pv 9) (fun _ _=>rfl)) (pv 10) (fun _ _=>rfl)) (bB _))
      (hZ (bA (qB (d:=0) hu1) (fN (pv 1) T.cl mG GG hr bG .nil oH (aA (pv 9) (aA (pv 10) aB))) (pv 11) (bB _))))) bZ aZ)))))))
   (aI (aU (hG fD (iA (pv 1) T.cl mS GS h1 bS .nil aR) (aO (iP rfl) (by rfl) B.max PyProof.Rows.boot_max (aA ?c4 aB)) (bB _))))))),?_⟩
  case c0 =>
   refine' cC (g:=bE 0) (te:=xP C "out" (rV K C CE aOut) [] E0 (tVar 1) (aY (tVar 0) tNil)) (NB:=["_law_house", "_law_net"]) (src:=[none,some 1]) (bU (by kernel_rfl)) rfl (cA rfl B.range (aA (pv 2) aB)) ?g ?t ?e
   case g=>exact fun cl C s₃ H₃ fp=>aL (i:=0) aE2 rfl (Or.inl rfl) (Or.inr rfl)
   case t=>exact fun cl C s₃ H₃ fp=>cF
   case e=>exact fun cl C' s₃ H₃ fp=>fN (pv 1) T.cl mO GO h5 bO .nil oH (aA (pv 0) aB)
  case c1 =>
   refine' cC (g:=bE 0) (te:=gA pF [] E0 (aY (tVar 1) (aY (tVar 0) tNil))) (NB:=["_law_house", "_law_leads_here"]) (src:=[none,some 4]) (bU (by kernel_rfl)) rfl (cA rfl B.range (aA (pv 2) aB)) ?g ?t ?e
   case g=>exact fun cl C s₃ H₃ fp=>aL (i:=0) nbHL rfl (Or.inl rfl) (Or.inr rfl)
   case t=>exact fun cl C s₃ H₃ fp=>cF
   case e=>exact fun cl C s₃ H₃ fp=>aQ FA h1 aR (aA (pv 1) (aA (pv 0) aB))
  case g3=>exact fun cl C s₃ H₃ fp=>aL (i:=0) nbTF rfl (Or.inl rfl) (Or.inr rfl)
  case t3=>exact fun cl C s₃ H₃ fp=>hJ (bA nV (bL aX (bL aX (pv 1) (pv 0) (fun _ _=>rfl)) (pv 2) (fun _ _=>rfl)) (bL aX (bL aX (pv 1) (pv 3) (fun _ _=>rfl)) (pv 2) (fun _ _=>rfl)) (bB _))
  case e3=>exact fun cl C s₃ H₃ fp=>pv 0
  case c4 =>
   refine' cC (g:=bE 0) (te:=tCB (yN K) (aY (tVar 0) tNil)) (NB:=["_law_row"]) (src:=[none]) (bU (by kernel_rfl)) rfl (bX (pv 5)) ?g ?t ?e
   case g=>exact fun cl C s₃ H₃ fp=>aL (i:=0) nbLR rfl (Or.inl rfl) (Or.inr rfl)
   case t=>exact fun cl C s₃ H₃ fp=>cF
   case e=>exact fun cl C s₃ H₃ fp=>aO (iP rfl) (by rfl) B.max PyProof.Rows.boot_max (aA (pv 0) aB)
  generalize hts : zp zs = ts at N
  have fi:=N.fine
  have n1:=fi.n1
  have n2:=fi.n2
  refine ⟨_,rfl,_,rfl,n,l,zs,rfl,TT,fun LL H1 s1 hLL O1=>?_⟩
  rw [hts] at O1
  have hLp : LL ≠ p:=hp.ne hLL
  refine ⟨_,rfl,n,rfl,by omega,by omega,fun OO hOO=>?_⟩
  refine cV (n:=n) (lo:=0) (fun i ys σ H2=>(∃ a,σ = [a,some (.ref pn)])∧Same H1 H2∧∃ bs : List Addr,ys = bs.map V.ref∧(∀ b∈bs,b ≠ OO)∧Holds H2 bs i (fun h=>.lst (NV (outN n ts h)))∧H2 OO = some (.lst ys)) ⟨⟨_,rfl⟩,aF hOO,[],rfl,(fun _ h=>nomatch h),Holds.nil,aD⟩ ?_ ?_
  ·rintro i ys σ H2 Kt Kf hi ⟨⟨a,rfl⟩,sm2,bs,rfl,hbF,hb,hF2⟩ kt kf
   have N2:=N.same (s1.trans sm2)
   obtain ⟨dx,tl,ol,ds,e1,_⟩:=N2.ob
   rw [Int.zero_add]
   refine ⟨_,rfl,pn,dx,_,rfl,e1,nout _ _ _ _,_,rfl,L,pn,n,ts,_,some (i : Int),rfl,N2,.int _,fun z=>absurd z (by rw [gJ hi]; decide),fun i' hi' ei=>?_⟩
   obtain rfl : i = i':=Int.ofNat.inj (Option.some.inj ei)
   intro r H3 s3 hr3 hr3'
   have hF3:=s3 _ _ hF2
   have nrF : r ≠ OO:=by rintro rfl; rw [hF2] at hr3; cases hr3
   have keepD : ∀ b o ys',H3 b = some o→b ≠ OO→(upd H3 OO ys') b = some o:=fun b o ys' e h=>by rw [aH h]; exact e
   refine kt _ _ _ hF3 (by rw [List.length_map,hb.1]; exact Nat.lt_of_lt_of_le hi (Nat.le_trans n2 (by decide))) ⟨⟨_,rfl⟩,bP (sm2.trans s3) hOO,bs ++ [r],by rw [List.map_append]; rfl,?_,?_,aD⟩
   ·intro b hb'
    rcases List.mem_append.mp hb' with z | z
    ·exact hbF b z
    ·rw [List.mem_singleton.mp z]; exact nrF
   ·refine Holds.snoc (hb.mono fun j hj e=>keepD _ _ _ (s3 _ _ e) (hbF _ ?_)) (keepD _ _ _ hr3' nrF)
    rw [List.getD_eq_getElem?_getD,List.getElem?_eq_getElem (by rw [hb.1]; exact hj)]; exact List.getElem_mem _
  ·rintro ys σ H2 ⟨_,sm2,bs,rfl,_,hb,hF2⟩
   obtain ⟨cs,c1,c2,c3⟩:=id (O1.keep (L:=fun a=>H a = none) hLL fun b o _ e=>sm2 _ _ e)
   refine ⟨_,rfl,OO,LL,_,_,rfl,rfl,SqL.of hF2,SqL.of c1,by rw [List.length_map,List.length_map,hb.1,c3.1],fun i hi hi'=>?_,_,rfl,iteF ?_⟩
   ·rw [List.length_map] at hi hi'
    have e1 : (bs.map V.ref).getD i .non = .ref (bs.getD i 0):=by rw [List.getD_eq_getElem?_getD,List.getElem?_map,List.getD_eq_getElem?_getD,List.getElem?_eq_getElem hi]; rfl
    have e2 : (cs.map V.ref).getD i .non = .ref (cs.getD i 0):=by rw [List.getD_eq_getElem?_getD,List.getElem?_map,List.getD_eq_getElem?_getD,List.getElem?_eq_getElem hi']; rfl
    rw [e1,e2]
    rw [hb.1] at hi
    exact aBW (d:=0) (SqL.of (hb.2 i hi)) (SqL.of (c3.2 i hi)) rfl fun j hj _=>aBk hj
   have s02:=s1.trans sm2
   have O2 : cI H2 (fun a=>H a = none) LL n (outN n ts):=⟨cs,c1,c2,c3⟩
   clear hb hF2 c1 c2 c3 O1 hOO
   refine ⟨_,rfl,n,rfl,by omega,by omega,fun FF hFF=>?_⟩
   refine cV (n:=n) (lo:=0) (fun i ys σ H3=>(∃ a,σ = [a,some (.ref LL)])∧Same H2 H3∧∃ bs : List Addr,ys = bs.map V.ref∧(∀ b∈bs,b ≠ FF∧H b = none)∧Holds H3 bs i (fun h=>.lst (NV ((List.range n).map (far ts h))))∧H3 FF = some (.lst ys)) ⟨⟨_,rfl⟩,aF hFF,[],rfl,(fun _ h=>nomatch h),Holds.nil,aD⟩ ?_ ?_
   ·rintro i ys σ H3 Kt Kf hi ⟨⟨a,rfl⟩,sm3,bs,rfl,hbF,hb,hF3⟩ kt kf
    obtain ⟨cs',q1,_,q2⟩:=O2.keep (L:=fun a=>H a = none) hLL fun b o _ e=>sm3 _ _ e
    refine ⟨_,rfl,_,rfl,LL,n,i,ts,by rw [Int.zero_add]; rfl,fi,hi,⟨cs',q1,q2⟩,fun r H4 s4 hr4 hr4'=>?_⟩
    have hF4:=s4 _ _ hF3
    have nrF : r ≠ FF:=by rintro rfl; rw [hF3] at hr4; cases hr4
    have keepD : ∀ b o ys',H4 b = some o→b ≠ FF→(upd H4 FF ys') b = some o:=fun b o ys' e h=>by rw [aH h]; exact e
    refine kt _ _ _ hF4 (by rw [List.length_map,hb.1]; exact Nat.lt_of_lt_of_le hi (Nat.le_trans n2 (by decide))) ⟨⟨_,rfl⟩,bP (sm3.trans s4) hFF,bs ++ [r],by rw [List.map_append]; rfl,?_,?_,aD⟩
    ·intro b hb'
     rcases List.mem_append.mp hb' with z | z
     ·exact hbF b z
     ·rw [List.mem_singleton.mp z]; exact ⟨nrF,(s02.trans sm3).free hr4⟩
    ·refine Holds.snoc (hb.mono fun j hj e=>keepD _ _ _ (s4 _ _ e) (hbF _ ?_).1) (keepD _ _ _ hr4' nrF)
     rw [List.getD_eq_getElem?_getD,List.getElem?_eq_getElem (by rw [hb.1]; exact hj)]; exact List.getElem_mem _
   ·rintro ys σ H3 ⟨_,sm3,bs,rfl,hbF,hb,hF3⟩
    have s03:=s02.trans sm3
    have hFH : H FF = none:=s02.free hFF
    have hFp : FF ≠ p:=hp.ne hFH
    have R3 : cI H3 (fun a=>H a = none) FF n (fun h=>(List.range n).map (far ts h)):=⟨bs,hF3,fun b z=>(hbF b z).2,hb⟩
    have O3 : cI H3 (fun a=>H a = none) LL n (outN n ts):=O2.keep (L:=fun a=>H a = none) hLL fun b o _ e=>sm3 _ _ e
    have N3 : cD C H3 L pn n ts:=N.same s03
    have hp3:=hp.same s03
    have hg : ∀ i j,j < n→(NV ((List.range n).map (far ts i)))[j]? = some (.int ((far ts i j : Nat) : Int)):=fun i j hj=>by rw [List.getElem?_map,List.getElem?_map,List.getElem?_range hj]; rfl
    clear hbF hb hF3 O2 sm3 sm2 s02
    refine ⟨6,rfl,by decide,by decide,eA (lo:=0) (n:=6) (fun i σ Hc=>(∃ a b c d e f,σ = [some (.ref p),some (.ref pn),some (.int n),some (.ref l),some (.ref LL),some (.ref FF),a,b,c,d,e,f])∧aP p H3 Hc∧bD Hc p) ⟨⟨_,_,_,_,_,_,rfl⟩,aP.refl,hp3⟩ ?_ ?_⟩
    ·rintro i σ Hc hi ⟨⟨a,b,c,d,e,f,rfl⟩,sc,hpc⟩
     refine ⟨_,rfl,_,rfl,p,n,rfl,by omega,by omega,hpc,fun x Hd hx sd hpd=>⟨_,rfl,_,rfl,p,n,rfl,by omega,by omega,hpd,fun y He hy se hpe=>⟨_,_,rfl,?_⟩⟩⟩
     refine ⟨_,rfl,_,rfl,by show 2 ≤ sizeLine; decide,fun t1 ht1=>⟨_,rfl,_,rfl,by show 2 ≤ sizeLine; decide,fun t2 ht2=>⟨by show 2 ≤ sizeLine; decide,fun LT hLT=>?_⟩⟩⟩
     have u1:=aF (o:=.tup [.int (x : Int),.int (y : Int)]) ht1
     have u2:=aF (o:=.tup [.int (y : Int),.int (x : Int)]) ht2
     have u3:=aF (o:=.lst [.ref t1,.ref t2]) hLT
     have g1:=u3 _ _ (u2 _ _ (aD (H:=He) (a:=t1) (o:=.tup [.int (x : Int),.int (y : Int)])))
     have g2:=u3 _ _ (aD (H:=upd He t1 (.tup [.int (x : Int),.int (y : Int)])) (a:=t2) (o:=.tup [.int (y : Int),.int (x : Int)]))
     have g3 : (upd (upd (upd He t1 (.tup [.int (x : Int),.int (y : Int)])) t2 (.tup [.int (y : Int),.int (x : Int)])) LT (.lst [.ref t1,.ref t2])) LT = some (.lst [.ref t1,.ref t2]):=aD
     have s3e : aP p H3 (upd (upd (upd He t1 (.tup [.int (x : Int),.int (y : Int)])) t2 (.tup [.int (y : Int),.int (x : Int)])) LT (.lst [.ref t1,.ref t2])):=((sc.trans sd).trans se).trans (aP.of ((u1.trans u2).trans u3))
     have hpf:=hpe.same ((u1.trans u2).trans u3)
     generalize upd (upd (upd He t1 _) t2 _) LT _ = Hf at *
     refine ⟨LT,rfl,⟨_,SqL.of g3⟩,eT (K:=K) (xs:=[.ref t1,.ref t2]) (fun j σ Hg=>(∃ a b c d e f,σ = [some (.ref p),some (.ref pn),some (.int n),some (.ref l),some (.ref LL),some (.ref FF),a,b,c,d,e,f])∧Same Hf Hg) ⟨⟨_,_,_,_,_,_,rfl⟩,Same.refl _⟩ (fun j σ Hg _ z=>SqL.of (z.2 _ _ g3)) ?_ ?_⟩
     ·rintro j v σ Hg hv ⟨⟨a,b,c,d,e,f,rfl⟩,sg⟩
      obtain ⟨t,i',j',rfl,gt,hi',hj'⟩ : ∃ (t : Addr) (i' j' : Nat),v = .ref t∧Hg t = some (.tup [.int (i' : Int),.int (j' : Int)])∧i' < n∧j' < n:=by
       match j,hv with
       | 0,hv=>exact ⟨t1,x,y,(Option.some.inj hv).symm,sg _ _ g1,hx,hy⟩
       | 1,hv=>exact ⟨t2,y,x,(Option.some.inj hv).symm,sg _ _ g2,hy,hx⟩
       | j + 2,hv=>exact absurd hv (by simp)
      refine ⟨_,_,rfl,SqT.of gt,rfl,_,_,rfl,_,_,rfl,rfl,?_⟩
      have sE : aP p H3 Hg:=s3e.trans (aP.of sg)
      have hpH : H p ≠ none:=hp.full
      have R8:=R3.keepE sE hpH hFp
      have O8:=O3.keepE sE hpH hLp
      have N8:=N3.keepE sE hp3 hL
      obtain ⟨bsO8,bO8,p1,p2,p3,_⟩:=O8.row hi'
      refine ⟨_,rfl,_,rfl,LL,_,_,_,rfl,rfl,SqL.of p1,aW p2,bO8,rfl,⟨_,SqL.of p3⟩,fun D2 hD2=>?_⟩
      have hol' : (outN n ts i').length ≤ 32:=Nat.le_trans (Nat.le_trans (List.length_filter_le _ _) (by simp)) n2
      refine xF (fun o=>decide (far ts o j' < far ts i' j')) (fun σ=>∃ a,σ = [a,some (.ref FF),some (.int (j' : Int)),some (.int (i' : Int))]) p3 hD2 (by omega) ⟨_,rfl⟩ ?_ ?_
      ·rintro v σ H9 Kt Kf hv ⟨a',rfl⟩ s9 kt kf
       have hvn : v < n:=pP fi hi' hv
       obtain ⟨b1,c1,x1,x2,x3,_⟩:=(R8.keep (L:=fun a=>H a = none) hFH fun b o _ e=>s9 _ _ e).row hvn
       obtain ⟨b2,c2,y1,y2,y3,_⟩:=(R8.keep (L:=fun a=>H a = none) hFH fun b o _ e=>s9 _ _ e).row hi'
       refine ⟨_,rfl,_,rfl,FF,_,_,_,rfl,rfl,SqL.of x1,aW x2,_,rfl,c1,_,_,_,rfl,rfl,SqL.of x3,aW (hg v j' hj'),_,rfl,_,rfl,FF,_,_,_,rfl,rfl,SqL.of y1,aW y2,_,rfl,c2,_,_,_,rfl,rfl,SqL.of y3,aW (hg i' j' hj'),_,_,rfl,rfl,_,rfl,?_⟩
       refine ite2 (fun e=>?_) (fun e=>?_)
       ·exact ⟨_,rfl,kt _ _ ⟨_,rfl⟩ (Same.refl _) (by simp at e ⊢; omega)⟩
       ·exact kf _ _ ⟨_,rfl⟩ (Same.refl _) (by simp at e ⊢; omega)
      ·intro H9 s9 hD9
       have N9:=N8.same s9
       obtain ⟨dx9,tl9,ol9,ds9,e9,_⟩:=N9.ob
       obtain ⟨b2,c2,y1,y2,y3,_⟩:=(R8.keep (L:=fun a=>H a = none) hFH fun b o _ e=>s9 _ _ e).row hi'
       refine ⟨_,rfl,pn,dx9,_,rfl,e9,nfar _ _ _ _,_,rfl,_,rfl,L,pn,n,ts,_,some (i' : Int),_,some (j' : Int),rfl,N9,.int _,.int _,fun z=>?_,fun i1 j1 h1' h2' e1' e2'=>?_⟩
       ·rw [gJ hi',gJ hj'] at z
        rcases z with z | z <;> cases z
       ·obtain rfl : i' = i1:=Int.ofNat.inj (Option.some.inj e1')
        obtain rfl : j' = j1:=Int.ofNat.inj (Option.some.inj e2')
        refine ⟨_,rfl,_,rfl,FF,_,_,_,rfl,rfl,SqL.of y1,aW y2,_,rfl,c2,_,_,_,rfl,rfl,SqL.of y3,aW (hg i' j' hj'),rfl,_,rfl,oZ (by simp) ?_⟩
        refine ⟨_,rfl,pn,dx9,_,rfl,e9,aE3 _ _ _ _,_,rfl,_,rfl,L,pn,n,ts,_,some (i' : Int),_,some (j' : Int),rfl,N9,.int _,.int _,fun z=>?_,fun i1 j1 h1' h2' e1' e2'=>?_⟩
        ·rw [gJ hi',gJ hj'] at z
         rcases z with z | z <;> cases z
        ·obtain rfl : i' = i1:=Int.ofNat.inj (Option.some.inj e1')
         obtain rfl : j' = j1:=Int.ofNat.inj (Option.some.inj e2')
         intro r10 H10 s10 hr10 hr10'
         refine ⟨_,rfl,r10,D2,_,_,rfl,rfl,SqL.of hr10',SqL.of (s10 _ _ hD9),rfl,fun m hm _=>aBk hm,_,rfl,iteF ⟨⟨_,_,_,_,_,_,rfl⟩,(sg.trans s9).trans s10⟩⟩
     ·rintro σ Hg ⟨⟨a,b,c,d,e,f,rfl⟩,sg⟩
      exact ⟨⟨_,_,_,_,_,_,rfl⟩,s3e.trans (aP.of sg),hpf.same sg⟩
    ·rintro σ Hc ⟨⟨a,b,c,d,e,f,rfl⟩,sc,hpc⟩
     have N4:=N3.keepE sc hp3 hL
     have R4:=R3.keepE sc hp.full hFp
     obtain ⟨dx4,tl4,ol4,ds4,e4,_⟩:=N4.ob
     refine ⟨_,rfl,pn,dx4,_,rfl,e4,aE4 _ _ _ _,L,pn,n,ts,rfl,N4,fun M H5 s5 sp4=>?_⟩
     obtain ⟨bs5,q1,_,q2⟩:=R4.keep (L:=fun a=>H a = none) hFH fun b o _ e=>s5 _ _ e
     refine ⟨_,rfl,FF,rfl,⟨_,SqL.of q1⟩,fun D hD=>?_⟩
     refine cQ (xs:=bs5.map V.ref) (fun i ys σ H6=>(∃ a,σ = [a])∧Same H5 H6∧H6 D = some (.lst ys)∧∃ ms : List Nat,ys = NV ms∧ms.length = i∧(∀ k (hk : k < ms.length),(∃ j,j < n∧ms[k] = far ts k j)∧∀ j,j < n→far ts k j ≤ ms[k])) ⟨⟨_,rfl⟩,aF hD,aD,[],rfl,rfl,fun k hk=>absurd hk (by simp)⟩ (fun i ys σ H6 _ z=>SqL.of (z.2.1 _ _ q1)) ?_ ?_
     ·rintro i x ys σ H6 Kt Kf hx ⟨⟨a',rfl⟩,s6,hD6,ms,rfl,hml,hm⟩ kt kf
      obtain ⟨hi,rfl⟩:=rY hx
      rw [q2.1] at hi
      have hrow:=s6 _ _ (q2.2 i hi)
      have eRow : NV ((List.range n).map (far ts i)) = IV ((List.range n).map (fun x=>((far ts i x : Nat) : Int))):=by unfold NV IV; rw [List.map_map,List.map_map]; rfl
      refine ⟨_,rfl,_,(List.range n).map (fun x=>((far ts i x : Nat) : Int)),rfl,SqL.of (hrow.trans (congrArg (fun l=>some (HO.lst l)) eRow)),?_,fun M6 hM1 hM2=>?_⟩
      ·intro z
       have:=congrArg List.length z
       rw [List.length_map,List.length_range,List.length_nil] at this
       omega
      ·obtain ⟨j,hj,rfl⟩:=List.mem_map.mp hM1
       have hj':=List.mem_range.mp hj
       refine kt _ _ _ hD6 (by rw [aN,hml]; exact Nat.lt_of_lt_of_le hi (Nat.le_trans n2 (by decide))) ⟨⟨_,rfl⟩,bP s6 hD,aD,ms ++ [far ts i j],dW,by rw [List.length_append,hml]; rfl,fun k hk=>?_⟩
       by_cases hk' : k < ms.length
       ·rw [List.getElem_append_left hk']; exact hm k hk'
       ·have : k = ms.length:=by rw [List.length_append] at hk; simp at hk; omega
        subst this
        rw [List.getElem_append_right (Nat.le_refl _)]
        simp only [Nat.sub_self,List.getElem_cons_zero]
        rw [hml]
        refine ⟨⟨j,hj',rfl⟩,fun j2 hj2=>?_⟩
        have:=hM2 _ (List.mem_map.mpr ⟨j2,List.mem_range.mpr hj2,rfl⟩)
        omega
     ·rintro ys σ H6 ⟨_,s6,hD6,ms,rfl,hml,hm⟩
      rw [List.length_map,q2.1] at hml
      refine ⟨D,ms.map (fun (x : Nat)=>(x : Int)),rfl,SqL.of (by rw [hD6,aCp]),?_,fun M6 hM1 hM2=>?_⟩
      ·intro z
       have:=congrArg List.length z
       rw [List.length_map,List.length_nil] at this
       omega
      ·obtain ⟨m6,hmm,rfl⟩:=List.mem_map.mp hM1
       obtain ⟨k',hk',rfl⟩:=List.mem_iff_getElem.mp hmm
       have spM : lH n ts ms[k']:=by
        refine ⟨?_,fun i j hi hj=>?_⟩
        ·obtain ⟨⟨j,hj,e⟩,_⟩:=hm k' hk'
         exact ⟨k',j,by omega,hj,e⟩
        ·have h1:=(hm i (by omega)).2 j hj
         have h2:=hM2 _ (List.mem_map.mpr ⟨_,List.getElem_mem (show i < ms.length by omega),rfl⟩)
         omega
       obtain e:=sp4.uniq spM
       refine ⟨rfl,?_⟩
       rw [← e]
       rw [show decide (V.int ((M : Nat) : Int) = V.int ((M : Nat) : Int)) = true by simp]
       exact k _ (((aP.of s03).trans sc).trans (aP.of (s5.trans s6))) ((hpc.same s5).same s6)
end
end K12
namespace L2
open PySem PySem.Spec PyProof.Rows
theorem aBl {X : Cx} : OpR X (compareOp .IsNot) (fun x y H Q=>∃ c d : Bool,x = .bl c∧y = .bl d∧Q (.bl (c != d)) H):=by
 intro pins s σ H x y v u Q I rx ry h
 obtain ⟨c,d,rfl,rfl,q⟩:=h
 cases rx
 cases ry
 exact isnot_bool ⟨.bl _,H,I,rfl,q⟩
end L2
namespace K12
open PySem L2 NetM
abbrev pH : Stmt:=top 56
def Fx (D : Addr→Prop) (H H' : Hp) : Prop:=∀ b o,H b = some o→¬ D b→H' b = some o
theorem Fx.of {D : Addr→Prop} {H H' : Hp} (s : Same H H') : Fx D H H':=fun b o e _=>s b o e
theorem Fx.trans {D : Addr→Prop} {H H1 H2 : Hp} (a : Fx D H H1) (b : Fx D H1 H2) : Fx D H H2:=fun c o h n=>b c o (a c o h n) n
theorem Fx.ofE {D : Addr→Prop} {p : Addr} {H H' : Hp} (s : aP p H H') (h : D p) : Fx D H H':=fun b o e n=>s b o e (fun z=>n (z ▸ h))
theorem Fx.ofT {D : Addr→Prop} {p : Addr} {H H' : Hp} (s : iQ p H H') (h : D p) : Fx D H H':=fun b o e n=>s b o e (fun z=>n (z ▸ h))
theorem Tab.keepE {p Pt : Addr} {H H' : Hp} (t : Tab Pt H) (s : aP p H H') (hp : bD H p) : Tab Pt H':=by
 obtain ⟨a,b,e,_⟩:=hp
 rcases t with z | ⟨c,z,y⟩
 ·exact .inl (s _ _ z (by rintro rfl; rw [z] at e; cases e))
 ·exact .inr ⟨c,s _ _ z (by rintro rfl; rw [z] at e; cases e),s _ _ y (by rintro rfl; rw [y] at e; cases e)⟩
theorem aE5 (n : Int) (tl ol ds : Addr) : (flds n tl ol ds).lookup ("many" : Str) = none:=eY n tl ol ds (by decide +kernel) (by decide +kernel) (by decide +kernel) (by decide +kernel)
theorem aCw (n : Int) (tl ol ds : Addr) : (flds n tl ol ds).lookup ("ties" : Str) = none:=eY n tl ol ds (by decide +kernel) (by decide +kernel) (by decide +kernel) (by decide +kernel)
theorem ntwo (n : Int) (tl ol ds : Addr) : (flds n tl ol ds).lookup ("is_two_way" : Str) = none:=eY n tl ol ds (by decide +kernel) (by decide +kernel) (by decide +kernel) (by decide +kernel)
theorem aEm {X : Cx} {H : Hp} {zs ys : Zs} (h1 : PO H zs) (h2 : PO H ys) (e : zp zs = zp ys) {i : Nat} (hi : i < (zr zs).length) : EqD X H 1 ((zr zs).getD i .non) ((zr ys).getD i .non):=by
 rw [dB] at hi
 have hl : zs.length = ys.length:=by rw [← bK,e,bK]
 have hj : i < ys.length:=by omega
 have e1 : (zr zs).getD i .non = .ref zs[i].1:=by unfold zr; rw [List.getD_eq_getElem?_getD,List.getElem?_map,List.getElem?_eq_getElem hi]; rfl
 have e2 : (zr ys).getD i .non = .ref ys[i].1:=by unfold zr; rw [List.getD_eq_getElem?_getD,List.getElem?_map,List.getElem?_eq_getElem hj]; rfl
 have e3 : zs[i].2 = ys[i].2:=by
  have:=congrArg (fun l=>l[i]?) e
  unfold zp at this
  simp only [List.getElem?_map,List.getElem?_eq_getElem hi,List.getElem?_eq_getElem hj] at this
  exact Option.some.inj this
 rw [e1,e2]
 have g1:=h1 zs[i] (List.getElem_mem hi)
 have g2:=h2 ys[i] (List.getElem_mem hj)
 rw [← e3] at g2
 refine aDh (d:=0) (SqT.of g1) (SqT.of g2) rfl fun j hj _=>?_
 match j,hj with
 | 0,_=>exact qA
 | 1,_=>exact qA
 | j + 2,h=>exact absurd h (by simp)
section
variable {P : Program} {w : World} {K : W.Frag} {mg : Str→Option Value} {base : Heap}
theorem jO : aM ["_law_pot_here", "_law_sides_here", "_law_many", "_law_net", "_law_refused_here", "_law_ties"] ["_law_pot_here", "_law_sides_here"] (aG pH):=⟨rfl,rfl,rfl,by decide +kernel,rfl,by decide +kernel,by decide +kernel⟩
def qP (K : W.Frag) (Pt : Addr) : Sp:=fun vs H Q _=>∃ (p : Addr) (x : V) (o : Option (List (Option Int))),vs = [.ref p,x]∧bD H p∧Tab Pt H∧Sd K H x o∧∀ H',Fx (fun b=>b = p∨b = Pt) H H'→bD H' p→Tab Pt H'→Q (.bl true) H'
theorem aCc {f C Pt : Addr} {fd : FuncData} (F : Fun K "_law_right" "_law_right" pH f fd) (T : NT K mg C) (LH : Cal P w K mg base CX0 2 "_law_houses" ["_law_sides_here"] (nK K)) (LP : Cal P w K mg base CX0 2 "_law_pairs" ["_law_sides_here", "_law_many"] nM) (MD : Cal P w K mg base CX0 11 "_law_made" ["_law_sides_here"] (uU K C Pt)) (TI : Cal P w K mg base CX0 7 "_law_as_tied" ["_law_pot_here", "_law_net", "_law_many", "_law_ties"] (uW C))
  (MM : MCal P w K mg base CX0 1 C "many" ["self"] (uE C)) (MT : MCal P w K mg base CX0 1 C "ties" ["self"] (oX C)) (MW : MCal P w K mg base CX0 1 C "is_two_way" ["self"] (yX C)) :
  FnOk P w K mg base CX0 12 f fd ["_law_pot_here", "_law_sides_here"] (qP K Pt):=by
 obtain ⟨fM,fdM,mM,bM,GM⟩:=MM.ex
 obtain ⟨fT,fdT,mT,bT,GT⟩:=MT.ex
 obtain ⟨fW,fdW,mW,bW,GW⟩:=MW.ex
 refine F.ok jO (fun vs H Q E h=>?_) (fun cdv A outer s H vs Q E hr h=>?_)
 ·obtain ⟨p,x,o,rfl,_⟩:=h
  rfl
 ·obtain ⟨p,x,o,rfl,hp,tb,sd,k⟩:=h
  have h1 : Room 1 _:=hr.mono (by decide)
  have h2 : Room 2 _:=hr.mono (by decide)
  have h7 : Room 7 _:=hr.mono (by decide)
  have hu2 : (A.deeper (PyProof.Rows.envOfC "_law_right" (aG pH) s.heap.objs.size f cdv)).units + (1 + 1) < cLine:=by have:=hr.un; omega
  refine ⟨_,(aE (aS (i:=2) jO.nd rfl (Or.inl rfl) (aQ LH h2 aR (aA (pv 1) aB)))
   (aE (iY (aQ MD hr aR (aA (pv 1) aB)) (eL (n:=2) rfl (bQ (aL (i:=3) jO.nd rfl (Or.inl rfl)) (bQ (aL (i:=4) jO.nd rfl (Or.inl rfl)) dS))))
   (aE (bR (PW.pt (gO (bA nW (pv 2) dZ (bB _)) (hZ (bA nW (pv 3) dZ (bB _))))) (aI (aU (eK (hG nW (pv 2) dZ (bB _)) (gG (pv 4))))) aZ)
   (aE (aS (i:=5) jO.nd rfl (Or.inl rfl) (aQ LP h2 aR (aA (pv 1) (aA (pv 2) aB))))
   (aE (bR (PW.pt (gO (bA lP (iA (pv 3) T.cl mM GM h1 bM .nil aR) (pv 2) (bB _)) (gO (bA (qB (d:=1) hu2) (iA (pv 3) T.cl mT GT h1 bT .nil aR) (pv 5) (bB _)) (hZ (bA aBl (iA (pv 3) T.cl mW GW h1 bW .nil aR) nQ (bB _)))))) bZ aZ)
   (aI (aU (aQ TI h7 aR (aA (pv 0) (aA (pv 3) (aA (pv 2) (aA (pv 5) aB)))))))))))),?_⟩
  have sdk : ∀ {H' : Hp},Same H H'→Sd K H' x o:=fun {H'} s'=>sd.same s' (fun w=>w.same s') (fun ty=>TyX.keep (fun a o _ z=>s' _ _ z) ty)
  refine ⟨_,rfl,x,o,rfl,sd,fun hb H1 s1=>?_,fun ns hb H1 s1=>?_⟩
  ·-- no box
   refine ⟨_,rfl,x,o,rfl,sdk s1,tb.same s1,fun _ t H2 s2 g2=>?_,fun ns hb'=>by rw [hb] at hb'; cases hb'⟩
   refine ⟨t,_,rfl,SqT.of g2,rfl,_,_,rfl,_,_,rfl,rfl,?_⟩
   refine ⟨_,rfl,rfl,_,rfl,iteT ⟨_,rfl,rfl,_,rfl,?_⟩⟩
   have s02:=s1.trans s2
   exact iteT ⟨_,rfl,k _ (Fx.of s02) (hp.same s02) (tb.same s02)⟩
  ·-- a box
   refine ⟨_,rfl,x,o,rfl,sdk s1,tb.same s1,(fun hb'=>by rw [hb] at hb'; cases hb'),fun ns' hb' t pn H2 N2 tb2 s2 hpn g2=>?_⟩
   obtain rfl : ns' = ns:=by rw [hb] at hb'; injection hb' with hb'; exact hb'.symm
   refine ⟨t,_,rfl,SqT.of g2,rfl,_,_,rfl,_,_,rfl,rfl,?_⟩
   have tb1:=tb.same s1
   have hp1:=hp.same s1
   have hL : ¬ H1 p = none:=hp1.full
   have hp2 : bD H2 p:=by
    obtain ⟨a,b,e,r⟩:=hp1
    exact ⟨a,b,s2 _ _ e (tb1.not e (by intro ps q; cases q)),r⟩
   have f2 : Fx (fun b=>b = p∨b = Pt) H H2:=(Fx.of s1).trans (Fx.ofT s2 (.inr rfl))
   refine ⟨_,rfl,rfl,_,rfl,iteF ⟨_,rfl,rfl,_,rfl,iteF ?_⟩⟩
   cases sd with
   | no ty h=>cases hb
   | @tup a xs os ha hl ew =>
    obtain ⟨e1,l1,l2,hn,hm,eo⟩:=uF hb
    have hall : os.all (fun o=>aT o 2 8) = true:=List.all_eq_true.mpr fun o ho=>by
     rw [eo] at ho
     obtain ⟨n,hn',rfl⟩:=List.mem_map.mp ho
     have:=hn n hn'
     unfold aT; simp; omega
    obtain ⟨ex,_⟩:=Sd.nums ha hl ew hall
    rw [← e1] at ex
    subst ex
    have ha2:=s2 _ _ (s1 _ _ ha) (tb1.not (s1 _ _ ha) (by intro ps q; cases q))
    have h0 : ns' ≠ []:=by rintro rfl; simp at l1
    have fi:=tT (fun x hx=>(hn x hx).1) h0 hm
    refine ⟨_,rfl,_,rfl,a,ns',rfl,ha2,l2,hn,hm,fun r zs H3 s3 hr3 hr3' po3 ez3=>?_⟩
    have N3:=N2.same s3
    obtain ⟨dx,tl,ol,ds,e1,_⟩:=N3.ob
    refine ⟨_,rfl,pn,dx,_,rfl,e1,aE5 _ _ _ _,_,pn,_,_,rfl,N3,_,rfl,rfl,_,rfl,oZ (by simp) ?_⟩
    refine ⟨_,rfl,pn,dx,_,rfl,e1,aCw _ _ _ _,_,pn,_,_,rfl,N3,fun r4 zs4 H4 s4 hr4 hr4' po4 pm4 or4=>?_⟩
    have mem : ∀ u,u∈zp zs4↔u∈zp zs:=fun u=>by rw [pm4.mem_iff,ez3,aC4 fun x hx=>(hn x hx).1]
    have st4 : (zp zs4).Pairwise (fun u v=>L2.pk u < L2.pk v):=by
     have:=or4.and (List.nodup_iff_pairwise_ne.mp (pm4.nodup_iff.mpr fi.nd))
     refine this.imp_of_mem fun {u v} hu hv z=>?_
     have r1:=(fi.rg u (pm4.mem_iff.mp hu)).2
     have r2:=(fi.rg v (pm4.mem_iff.mp hv)).2
     obtain ⟨z1,z2⟩:=z
     unfold L2.pk at z1 ⊢
     by_cases c : u.1 = v.1
     ·have : u.2 ≠ v.2:=fun d=>z2 (Prod.ext c d)
      omega
     ·omega
    have st3 : (zp zs).Pairwise (fun u v=>L2.pk u < L2.pk v):=by rw [ez3]; exact oT hm _
    have ez : zp zs4 = zp zs:=gE st4 st3 mem
    have zl : (zr zs4).length = (zr zs).length:=by rw [dB,dB,← bK,ez,bK]
    refine ⟨_,rfl,r4,r,_,_,rfl,rfl,SqL.of hr4',SqL.of (s4 _ _ hr3'),zl,fun j hj _=>?_,_,rfl,iteF ?_⟩
    ·exact aEm (po4.same s4) (po3.same s4) ez hj
    have s24:=s3.trans s4
    have N4:=N2.same s24
    refine ⟨_,rfl,pn,dx,_,rfl,s4 _ _ e1,ntwo _ _ _ _,_,pn,_,_,rfl,N4,fun b H5 s5 hb5=>?_⟩
    obtain rfl : b = true:=hb5.mpr fun u hu=>wP hu
    refine ⟨true,true,rfl,rfl,_,rfl,iteF ?_⟩
    have s25:=s24.trans s5
    have pm : (zp zs).Perm (dbl ((boxQ ns').map ci2)):=by rw [← ez]; exact pm4
    have N5:=(N2.same s25).perm pm
    have hp5:=hp2.same s25
    refine ⟨_,rfl,_,rfl,_,rfl,_,rfl,_,p,pn,_,r,zs,rfl,hp5,N5,⟨fi.perm pm,s5 _ _ (s4 _ _ hr3'),(po3.same s4).same s5⟩,hL,fun H10 s10 hp10=>?_⟩
    exact k H10 ((f2.trans (Fx.of s25)).trans (Fx.ofE s10 (.inl rfl))) hp10 ((tb2.same s25).keepE s10 hp5)
end
end K12
namespace K12
open PySem L2 NetM
abbrev sLaw : Stmt:=top 57
section
variable {P : Program} {w : World} {K : W.Frag} {mg : Str→Option Value} {base : Heap}
def SqF (K : W.Frag) (H : Hp) (a : Addr) (xs : List V) : Prop:=(∃ o,H a = some (.frz o (.lst xs)))∨(∀ H' : Hp,SqL K H' a xs)
theorem SqF.seq {H : Hp} {a : Addr} {xs : List V} (h : SqF K H a xs) : SqL K H a xs:=by
 rcases h with ⟨o,h⟩ | h
 ·exact .inl (.inr ⟨o,h⟩)
 ·exact h H
theorem SqF.mono {H H' : Hp} {a : Addr} {xs : List V} (h : SqF K H a xs) (e : ∀ o u,H a = some (.frz o u)→H' a = some (.frz o u)) : SqF K H' a xs:=by
 rcases h with ⟨o,h⟩ | h
 ·exact .inl ⟨o,e _ _ h⟩
 ·exact .inr h
theorem SqF.fx {p Pt : Addr} {H H' : Hp} {a : Addr} {xs : List V} (h : SqF K H a xs) (f : Fx (fun b=>b = p∨b = Pt) H H') (hp : bD H p) (tb : Tab Pt H) : SqF K H' a xs:=h.mono fun o u e=>f _ _ e (by
 rintro (rfl | rfl)
 ·obtain ⟨x,y,e',_⟩:=hp; rw [e] at e'; cases e'
 ·exact tb.not e (by intro ps q; cases q) rfl)
theorem dQ {p Pt a : Addr} {H H' : Hp} {xs : List V} (h : H a = some (.tup xs)) (f : Fx (fun b=>b = p∨b = Pt) H H') (hp : bD H p) (tb : Tab Pt H) : H' a = some (.tup xs):=f _ _ h (by
 rintro (rfl | rfl)
 ·exact hp.neT h rfl
 ·exact tb.not h (by intro ps q; cases q) rfl)
theorem _root_.L2.Wt.fx {p Pt : Addr} {H H' : Hp} {x : V} {d : PyData} (h : Wt H x d) (n : x ≠ .ref p) (f : Fx (fun b=>b = p∨b = Pt) H H') (hp : bD H p) (tb : Tab Pt H) : Wt H' x d:=by
 have k : ∀ a o,H a = some o→(o = .tup [.int 2]∨o = .lst [.int 2]∨o = .dK [])→H' a = some o:=fun a o e z=>f _ _ e (by
  rintro (rfl | rfl)
  ·obtain ⟨u,v,e',_⟩:=hp
   rw [e] at e'
   rcases z with rfl | rfl | rfl <;> cases e'
  ·refine tb.not e ?_ rfl
   intro ps q
   rcases z with rfl | rfl | rfl <;> cases q)
 cases h with
 | one b h=>exact .one b (h.keep k)
 | tup b h hl hs=>exact .tup b (dQ h f hp tb) hl (qL k hs)
 | @lst a xs ds h hl hs =>
  refine .lst (f _ _ h ?_) hl (qL k hs)
  rintro (rfl | rfl)
  ·exact n rfl
  ·exact tb.not h (by intro ps q; cases q) rfl
 | str h=>exact .str h
theorem pI {a : Addr} {H : Hp} {ns : List Nat} (h : H a = some (.tup (NV ns))) : Sd K H (.ref a) (some (ns.map fun (n : Nat)=>some (n : Int))):=.tup h (by rw [aN,List.length_map]) fun i x o h1 h2=>by
 obtain ⟨v,hv,rfl⟩:=eR h1
 rw [List.getElem?_map,hv] at h2
 cases h2
 exact .int _
theorem aCd {ns : List Nat} (b : Box ns) : box (some (ns.map fun (n : Nat)=>some (n : Int))) = some ns:=by
 obtain ⟨b1,b2,b3,b4⟩:=b
 have e : nsOf (ns.map fun (n : Nat)=>some (n : Int)) = ns:=by
  unfold nsOf
  rw [List.map_map]
  conv=>rhs; rw [← List.map_id ns]
  exact List.map_congr_left fun n _=>rfl
 have : box (some (ns.map fun (n : Nat)=>some (n : Int))) = some (nsOf (ns.map fun (n : Nat)=>some (n : Int))):=uG (by
  rw [e,List.length_map,decide_eq_true b1,decide_eq_true b2,decide_eq_true b4]
  rw [show (ns.map fun (n : Nat)=>some (n : Int)).all (fun o=>aT o 2 8) = true from List.all_eq_true.mpr fun o ho=>by
   obtain ⟨n,hn,rfl⟩:=List.mem_map.mp ho
   have:=b3 n hn
   unfold aT; simp; omega]
  rfl)
 rw [this,e]
theorem gX : aM ["_law_script", "_law_before", "_law_k", "_law_pot_here", "_law_step", "_law_good", "_law_sides_here", "_law_kept"] ["_law_script"] (aG sLaw):=⟨rfl,rfl,rfl,by decide +kernel,rfl,by decide +kernel,by decide +kernel⟩
def sB (K : W.Frag) (Pt : Addr) : Sp:=fun vs H Q _=>∃ (a : Addr) (ns : List Int),vs = [.ref a]∧SqF K H a (ns.map V.int)∧ns.length ≤ 63∧Tab Pt H∧∀ H',Q (.bl true) H'
theorem aEn {f C Pt CE : Addr} {fd : FuncData} (F : Fun K "law" "law" sLaw f fd) (B : Bl mg) (B3 : Bl3 mg) (T : NT K mg C) (PO2 : Cal P w K mg base CX0 1 "_law_pot" ["_law_script", "_law_k"] (zC K)) (DG : Cal P w K mg base CX0 1 "_law_digit" ["_law_pot_here", "_law_many"] eI) (SI : Cal P w K mg base CX0 3 "_law_sides" ["_law_pot_here"] qJ) (SP : Cal P w K mg base CX0 3 "_law_spoilt" ["_law_pot_here", "_law_step", "_law_sides_here"] nN)
  (RI : Cal P w K mg base CX0 12 "_law_right" ["_law_pot_here", "_law_sides_here"] (qP K Pt)) (BN : Cal P w K mg base (CXf P w) 10 "box_net" ["sides"] (lK K C Pt CE)) (MT : MCal P w K mg base CX0 1 C "ties" ["self"] (oX C)) :
  FnOk P w K mg base CX0 13 f fd ["_law_script"] (sB K Pt):=by
 obtain ⟨fT,fdT,mT,bT,GT⟩:=MT.ex
 refine F.ok gX (fun vs H Q E h=>?_) (fun cdv A outer s H vs Q E hr h=>?_)
 ·obtain ⟨a,ns,rfl,_⟩:=h
  rfl
 ·obtain ⟨a,ns,rfl,hS,hns,tb,q⟩:=h
  have h1 : Room 1 _:=hr.mono (by decide)
  have h3 : Room 3 _:=hr.mono (by decide)
  have h10 : Room 10 _:=hr.mono (by decide)
  have hu8 : (A.deeper (PyProof.Rows.envOfC "law" (aG sLaw) s.heap.objs.size f cdv)).units + 8 < cLine:=by have:=hr.un; omega
  refine ⟨_,(aE (aS (i:=1) gX.nd rfl (Or.inl rfl) (cW (aA aK (aA aK aB))))
   (aE (cJ PassesOwn.never rfl (cA rfl B.range (aA (aO (qQ rfl) (by rfl) B.max PyProof.Rows.boot_max (aA aK (aA (aO (qR rfl) (by rfl) B.min PyProof.Rows.boot_min (aA aK (aA (aO bV (by rfl) B.len PySem.boot_len (aA (pv 0) aB)) aB))) aB))) aB)) (aL (i:=2) gX.nd rfl (Or.inl rfl))
    (aE (aS (i:=3) gX.nd rfl (Or.inl rfl) (aQ PO2 h1 aR (aA (pv 0) (aA (pv 2) aB))))
    (aE (aS (i:=4) gX.nd rfl (Or.inl rfl) (aQ DG h1 aR (aA (pv 3) (aA aK aB))))
    (aE (aS (i:=5) gX.nd rfl (Or.inl rfl) (aQ SI h3 aR (aA (pv 3) aB)))
    (aE (aS (i:=6) gX.nd rfl (Or.inl rfl) (aQ SP h3 aR (aA (pv 3) (aA (pv 4) (aA (pv 5) aB)))))
    (aE (aS (i:=7) gX.nd rfl (Or.inl rfl) (aO (pB hr.gd hu8) (by rfl) B3.repr PyProof.Rows.boot_repr (aA (pv 6) aB)))
    (aE (bR (PW.pt (gO (cS (cP (aQ RI hr aR (aA (pv 3) (aA (pv 6) aB))))) (hZ (bA lP (aO (pB hr.gd hu8) (by rfl) B3.repr PyProof.Rows.boot_repr (aA (pv 6) aB)) (pv 7) (bB _))))) bZ aZ)
    (aE (bR (PW.pt (gO (cS (cP (aQ RI hr aR (aA (pv 3) (aA (pv 5) aB))))) (hZ (cS (cP (aQ RI hr aR (aA (pv 3) (aA (pv 1) aB)))))))) bZ aZ)
    (aE (cH (aDQ PySem.F.plainAttrs_list PySem.F.slot_list_clear PySem.F.type_list_clear aBx (iA (aQ BN h10 oH (aA (pv 5) aB)) T.cl mT GT h1 bT .nil aR)))
    (aE (bR (cS (cP (aQ RI hr aR (aA (pv 3) (aA (pv 5) aB))))) bZ aZ)
    (aI (aS (i:=1) gX.nd rfl (Or.inl rfl) (pv 5)))))))))))))
   (aI (aU nQ)))),?_⟩
  refine ⟨by show 2 ≤ sizeLine; decide,fun b0 hb0=>?_⟩
  have sb:=aF (o:=.tup (NV [2,3])) hb0
  have hS1 : SqF K (upd H b0 (.tup (NV [2,3]))) a (ns.map V.int):=hS.mono fun o u e=>sb _ _ e
  have tb1:=tb.same sb
  refine ⟨_,rfl,a,_,rfl,.inl hS1.seq,6,_,rfl,1,_,rfl,_,rfl,?_⟩
  obtain ⟨j,hj,j1⟩ : ∃ j : Int,(if (if (((ns.map V.int).length : Nat) : Int) < 6 then (((ns.map V.int).length : Nat) : Int) else 6) > 1 then (if (((ns.map V.int).length : Nat) : Int) < 6 then (((ns.map V.int).length : Nat) : Int) else 6) else 1) = j∧1 ≤ j∧j ≤ 6:=⟨_,rfl,by split <;> split <;> omega⟩
  rw [hj]
  refine ⟨by omega,by omega,eA (n:=j.toNat) (lo:=0) (fun k σ H2=>(∃ (bf : Addr) (ms : List Nat) (x2 x3 x4 x5 x6 x7 : Option V),σ = [some (.ref a),some (.ref bf),x2,x3,x4,x5,x6,x7]∧H2 bf = some (.tup (NV ms))∧Box ms)∧SqF K H2 a (ns.map V.int)∧Tab Pt H2) ⟨⟨b0,[2,3],_,_,_,_,_,_,rfl,aD,by unfold Box; decide⟩,hS1,tb1⟩ ?_ ?_⟩
  ·rintro k σ H2 hk ⟨⟨bf,ms,x2,x3,x4,x5,x6,x7,rfl,hbf,bm⟩,S2,t2⟩
   refine ⟨_,rfl,_,rfl,a,ns,k,by rw [Int.zero_add]; rfl,S2.seq,by omega,fun p H3 s3 np p3=>?_⟩
   have S3 : SqF K H3 a (ns.map V.int):=S2.mono fun o u e=>s3 _ _ e
   have t3:=t2.same s3
   have hbf3:=s3 _ _ hbf
   refine ⟨_,rfl,p,10,rfl,by decide,by decide,p3,fun st H4 hst s4 p4=>?_⟩
   have f4 : Fx (fun b=>b = p∨b = Pt) H3 H4:=Fx.ofE s4 (.inl rfl)
   have S4:=S3.fx f4 p3 t3
   have hbf4:=dQ hbf3 f4 p3 t3
   have t4:=t3.keepE s4 p3
   refine ⟨_,rfl,p,rfl,p4,fun g gs H5 s5 p5 hg hg5 bg=>?_⟩
   have f5 : Fx (fun b=>b = p∨b = Pt) H4 H5:=Fx.ofE s5 (.inl rfl)
   have S5:=S4.fx f5 p4 t4
   have hbf5:=dQ hbf4 f5 p4 t4
   have t5:=t4.keepE s5 p4
   refine ⟨_,rfl,_,rfl,_,rfl,p,g,st,gs,rfl,p5,hg5,bg,fun x d H6 s6 p6 W6 nx=>?_⟩
   have f6 : Fx (fun b=>b = p∨b = Pt) H5 H6:=Fx.ofE s6 (.inl rfl)
   have S6:=S5.fx f6 p5 t5
   have hbf6:=dQ hbf5 f6 p5 t5
   have hg6:=dQ hg5 f6 p5 t5
   have t6:=t5.keepE s6 p5
   refine ⟨_,rfl,x,d,rfl,W6.repr,?_⟩
   obtain ⟨o,sd⟩:=W6.sd (K:=K)
   refine ⟨_,rfl,_,rfl,p,x,o,rfl,p6,t6,sd,fun H7 f7 p7 t7=>⟨_,rfl,iteF ?_⟩⟩
   have S7:=S6.fx f7 p6 t6
   have hbf7:=dQ hbf6 f7 p6 t6
   have hg7:=dQ hg6 f7 p6 t6
   have W7:=W6.fx nx f7 p6 t6
   refine ⟨_,rfl,x,d,rfl,W7.repr,_,rfl,rfl,_,rfl,oZ (by simp) ?_⟩
   refine ⟨_,rfl,_,rfl,p,.ref g,_,rfl,p7,t7,pI hg7,fun H8 f8 p8 t8=>⟨_,rfl,iteF ?_⟩⟩
   have S8:=S7.fx f8 p7 t7
   have hbf8:=dQ hbf7 f8 p7 t7
   have hg8:=dQ hg7 f8 p7 t7
   refine ⟨_,rfl,_,rfl,p,.ref bf,_,rfl,p8,t8,pI hbf8,fun H9 f9 p9 t9=>⟨_,rfl,iteF ?_⟩⟩
   have S9:=S8.fx f9 p8 t8
   have hg9:=dQ hg8 f9 p8 t8
   refine ⟨_,rfl,.ref g,_,rfl,pI hg9,t9,(fun z=>by rw [aCd bg] at z; cases z),fun gs' hgs pn H10 npn N10 t10 s10=>?_⟩
   have f10 : Fx (fun b=>b = p∨b = Pt) H9 H10:=Fx.ofT s10 (.inr rfl)
   have S10:=S9.fx f10 p9 t9
   have hg10:=dQ hg9 f10 p9 t9
   have p10 : bD H10 p:=by
    obtain ⟨u,v,e,r⟩:=p9
    exact ⟨u,v,s10 _ _ e (t9.not e (by intro ps q; cases q)),r⟩
   obtain ⟨dx,tl,ol,ds,e1,_⟩:=N10.ob
   refine ⟨pn,dx,_,rfl,e1,aCw _ _ _ _,_,pn,_,_,rfl,N10,fun r zs H11 s11 hr hr' _ _ _=>?_⟩
   refine ⟨.inl ⟨rfl,_,SqL.of hr'⟩,r,_,rfl,rfl,hr',?_⟩
   have s12 : Same H10 (upd H11 r (.lst [])):=bP s11 hr
   generalize upd H11 r _ = H12 at *
   have S12 : SqF K H12 a (ns.map V.int):=S10.mono fun o u e=>s12 _ _ e
   have t12:=t10.same s12
   have p12:=p10.same s12
   have hg12:=s12 _ _ hg10
   refine ⟨_,rfl,_,rfl,p,.ref g,_,rfl,p12,t12,pI hg12,fun H13 f13 p13 t13=>⟨_,rfl,iteF ?_⟩⟩
   exact ⟨_,rfl,⟨g,gs,_,_,_,_,_,_,rfl,dQ hg12 f13 p12 t12,bg⟩,S12.fx f13 p12 t12,t13⟩
  ·rintro σ H2 ⟨⟨bf,ms,x2,x3,x4,x5,x6,x7,rfl,_⟩,_⟩
   exact q H2
end
end K12
namespace K12
open PySem L2 NetM
def FD (K : W.Frag) (n : Str) (st : Stmt) : Prop:=∃ (f : Addr) (oc : Value) (od an : Option Addr) (sl : Array (Option Value)) (kV dc pm cd ct : Value),W.nsIn K mainGlobals n = some (some (.ref f))∧K.lookup f = some ⟨oc,od,.func (W.fnOf n n (cM st) (bY st) (aG st) .none kV dc pm an cd ct),sl⟩∧W.codeIn K cd n = true∧W.keepIn K (.ref f) = true
def FC (K : W.Frag) (n : Str) (st : Stmt) (c : Addr) : Prop:=∃ (f : Addr) (oc : Value) (od an : Option Addr) (sl : Array (Option Value)) (kV dc pm ct : Value),W.nsIn K mainGlobals n = some (some (.ref f))∧K.lookup f = some ⟨oc,od,.func (W.fnOf n n (cM st) (bY st) (aG st) .none kV dc pm an (.ref c) ct),sl⟩∧W.codeIn K (.ref c) n = true∧W.keepIn K (.ref f) = true
def MD (K : W.Frag) (C : Addr) (n q : Str) (st : Stmt) : Prop:=∃ (f : Addr) (oc : Value) (od an : Option Addr) (sl : Array (Option Value)) (kV dc pm cd ct : Value),W.findIn K (.ref C) n = some (some (.ref f))∧W.isFn K (.ref f) = true∧K.lookup f = some ⟨oc,od,.func (W.fnOf n q (cM st) (bY st) (aG st) .none kV dc pm an cd ct),sl⟩∧W.codeIn K cd q = true∧W.keepIn K (.ref f) = true
section
variable {P : Program} {w : World} {K : W.Frag} {mg : Str→Option Value} {base h : Heap} {n q : Str} {st : Stmt} {f c C : Addr} {oc kV dc pm cd ct : Value} {od an : Option Addr} {sl : Array (Option Value)} {CX : CXT} {k : Nat} {ps : List Str} {sp : Sp}
theorem FD.mk (a : W.nsIn K mainGlobals n = some (some (.ref f))) (l : K.lookup f = some ⟨oc,od,.func (W.fnOf n n (cM st) (bY st) (aG st) .none kV dc pm an cd ct),sl⟩) (d : W.codeIn K cd n = true) (k : W.keepIn K (.ref f) = true) : FD K n st:=⟨f,oc,od,an,sl,kV,dc,pm,cd,ct,a,l,d,k⟩
theorem FC.mk (a : W.nsIn K mainGlobals n = some (some (.ref f))) (l : K.lookup f = some ⟨oc,od,.func (W.fnOf n n (cM st) (bY st) (aG st) .none kV dc pm an (.ref c) ct),sl⟩) (d : W.codeIn K (.ref c) n = true) (k : W.keepIn K (.ref f) = true) : FC K n st c:=⟨f,oc,od,an,sl,kV,dc,pm,ct,a,l,d,k⟩
theorem MD.mk (a : W.findIn K (.ref C) n = some (some (.ref f))) (i : W.isFn K (.ref f) = true) (l : K.lookup f = some ⟨oc,od,.func (W.fnOf n q (cM st) (bY st) (aG st) .none kV dc pm an cd ct),sl⟩) (d : W.codeIn K cd q = true) (k : W.keepIn K (.ref f) = true) : MD K C n q st:=⟨f,oc,od,an,sl,kV,dc,pm,cd,ct,a,i,l,d,k⟩
def BD (n q : Str) (st : Stmt) (ps : List Str) : Prop:=∀ (kV doc pm : Value) (an : Option Addr) (cdv ct : Value) (us : List Value),us.length = ps.length→bindArgs (W.fnOf n q (cM st) (bY st) (aG st) .none kV doc pm an cdv ct) ⟨us,[]⟩ = pure (ps.zip us)
theorem FD.cal (X : K.In h) (G : h.Ns mainGlobals mg) (D : FD K n st) (b : BD n n st ps) (o : ∀ {f fd},Fun K n n st f fd→FnOk P w K mg base CX k f fd ps sp) : Cal P w K mg base CX k n ps sp :=
 let ⟨f,_,_,_,_,_,_,_,_,_,a,l,d,kp⟩:=D
 have F:=kR (x:=n) (qual:=n) (st:=st) l d kp
 ⟨⟨f,_,W.mg_of X G a,kp,F.binds b,o F⟩⟩
theorem FD.calW (X : K.In h) (G : h.Ns mainGlobals mg) (D : FD K n st) (b : BD n n st ps) (o : ∀ {f fd},Fun K n n st f fd→lR P w K mg base (CXf P w) k f fd ps sp) : CalW P w K mg base k n ps sp :=
 let ⟨f,_,_,_,_,_,_,_,_,_,a,l,d,kp⟩:=D
 have F:=kR (x:=n) (qual:=n) (st:=st) l d kp
 ⟨⟨f,_,W.mg_of X G a,kp,F.binds b,o F⟩⟩
theorem FC.cal (X : K.In h) (G : h.Ns mainGlobals mg) (D : FC K n st c) (b : BD n n st ps) (o : ∀ {f fd},FunC K n n st f fd c→FnOk P w K mg base CX k f fd ps sp) : Cal P w K mg base CX k n ps sp :=
 let ⟨f,_,_,_,_,_,_,_,_,a,l,d,kp⟩:=D
 have F:=aCO (x:=n) (qual:=n) (st:=st) l d kp
 ⟨⟨f,_,W.mg_of X G a,kp,F.fun.binds b,o F⟩⟩
theorem MD.cal (D : MD K C n q st) (b : BD n q st ps) (o : ∀ {f fd},Fun K n q st f fd→FnOk P w K mg base CX k f fd ps sp) : MCal P w K mg base CX k C n ps sp :=
 let ⟨f,_,_,_,_,_,_,_,_,_,a,i,l,d,kp⟩:=D
 have F:=kR (x:=n) (qual:=q) (st:=st) l d kp
 ⟨⟨f,_,⟨a,i,kp⟩,F.binds b,o F⟩⟩
end
theorem aEo {l : W.OpenLaw} {w : World} {K : W.Frag} {h : Heap} {mg : Str→Option Value} {fa : Addr} (X : K.In h) (G : h.Ns mainGlobals mg) (hfa : mg "law" = some (.ref fa)) {C cO Pt x_BeatError x_NoShape x_NoBerth x_NoHanding x_NoHouse x_NoNet x_NoPlan x_NoRanks x_NoRow x_NoStand x_NoText x_NoTie x_TooMany : Addr} {t_FEWEST_HOUSES t_MOST_HOUSES t_MOST_TIES_OUT t_MOST_SIDES t_SHORTEST_SIDE t_LONGEST_SIDE : Tok} (aC : W.nsIn K mainGlobals "Net" = some (some (.ref C))) (a_BeatError : W.nsIn K mainGlobals "BeatError" = some (some (.ref x_BeatError))) (a_NoShape : W.nsIn K mainGlobals "NoShape" = some (some (.ref x_NoShape))) (a_NoBerth : W.nsIn K mainGlobals "NoBerth" = some (some (.ref x_NoBerth))) (a_NoHanding : W.nsIn K mainGlobals "NoHanding" = some (some (.ref x_NoHanding))) (a_NoHouse : W.nsIn K mainGlobals "NoHouse" = some (some (.ref x_NoHouse))) (a_NoNet : W.nsIn K mainGlobals "NoNet" = some (some (.ref x_NoNet))) (a_NoPlan : W.nsIn K mainGlobals "NoPlan" = some (some (.ref x_NoPlan))) (a_NoRanks : W.nsIn K mainGlobals "NoRanks" = some (some (.ref x_NoRanks))) (a_NoRow : W.nsIn K mainGlobals "NoRow" = some (some (.ref x_NoRow))) (a_NoStand : W.nsIn K mainGlobals "NoStand" = some (some (.ref x_NoStand))) (a_NoText : W.nsIn K mainGlobals "NoText" = some (some (.ref x_NoText))) (a_NoTie : W.nsIn K mainGlobals "NoTie" = some (some (.ref x_NoTie))) (a_TooMany : W.nsIn K mainGlobals "TooMany" = some (some (.ref x_TooMany))) (h_whole : FD K "is_whole" tU) (h_within : FD K "is_whole_within" pT) (h_house : FD K "is_house" tV) (h_row : FD K "is_row" sRow) (h_unl : FD K "are_unlike_houses" sUnl) (h_tie : FD K "is_tie" sTie) (h_cties : FD K "check_ties" tY) (h_bal : FD K "check_balance" sBal) (h_outs : FC K "houses_out" oU cO) (h_dist : FD K "distances_from" yV) (h_reach : FD K "check_reached" uA) (h_prod : FD K "product" yZ) (h_pairsN : FD K "pairs_net" qC) (h_csides : FD K "check_sides" qD) (h_bpairs : FD K "box_pairs" qE) (h_boxN : FD K "box_net" yY) (h_pot : FD K "_law_pot" sPot) (h_digit : FD K "_law_digit" uI) (h_order : FD K "_law_order" uO) (h_sides : FD K "_law_sides" uP) (h_thing : FD K "_law_thing" pA) (h_spoilt : FD K "_law_spoilt" mI) (h_isSide : FD K "_law_is_side" qF) (h_houses : FD K "_law_houses" qG) (h_place : FD K "_law_place" uK) (h_lpairs : FD K "_law_pairs" qH) (h_refused : FD K "_law_refused" nP) (h_made : FD K "_law_made" zE) (h_leads : FD K "_law_leads" uV) (h_fars : FD K "_law_fars" pE) (h_tied : FD K "_law_as_tied" pG) (h_right : FD K "_law_right" pH) (h_law : FD K "law" sLaw) (m_init : MD K C "__init__" "Net.__init__" rT) (m_check : MD K C "check_house" "Net.check_house" tX) (m_out : MD K C "out" "Net.out" sOut) (m_far : MD K C "far" "Net.far" sFar) (m_span : MD K C "span" "Net.span" yR) (m_good : MD K C "good" "Net.good" yS) (m_many : MD K C "many" "Net.many" yP) (m_ties : MD K C "ties" "Net.ties" yQ) (m_two : MD K C "is_two_way" "Net.is_two_way" sTwo) (pg : W.plainGet K C Str.empty = true) (q_hd : W.hasDictIn K C = true) (po : W.plainOver K C = true) (sa : W.findIn K (.ref C) "__setattr__" = some (some (.builtin "object.__setattr__"))) (mk : W.makesIn K C = true) (kc : W.keepIn K (.ref C) = true) (nH : W.findIn K (.ref C) "house_count" = some none) (nT : W.findIn K (.ref C) "tie_list" = some none) (nO : W.findIn K (.ref C) "out_lists" = some none) (nD : W.findIn K (.ref C) "distances" = some none) (z_isinstance : W.nsIn K mainGlobals "isinstance" = some none) (z_int : W.nsIn K mainGlobals "int" = some none) (z_bool : W.nsIn K mainGlobals "bool" = some none) (z_tuple : W.nsIn K mainGlobals "tuple" = some none) (z_list : W.nsIn K mainGlobals "list" = some none) (z_str : W.nsIn K mainGlobals "str" = some none) (z_set : W.nsIn K mainGlobals "set" = some none) (z_len : W.nsIn K mainGlobals "len" = some none) (z_range : W.nsIn K mainGlobals "range" = some none) (z_sorted : W.nsIn K mainGlobals "sorted" = some none) (z_any : W.nsIn K mainGlobals "any" = some none) (z_max : W.nsIn K mainGlobals "max" = some none) (z_min : W.nsIn K mainGlobals "min" = some none) (z_ValueError : W.nsIn K mainGlobals "ValueError" = some none) (z_all : W.nsIn K mainGlobals "all" = some none) (z_abs : W.nsIn K mainGlobals "abs" = some none) (z_sum : W.nsIn K mainGlobals "sum" = some none) (z_zip : W.nsIn K mainGlobals "zip" = some none) (z_repr : W.nsIn K mainGlobals "repr" = some none) (g_FEWEST_HOUSES : W.nsIn K mainGlobals "FEWEST_HOUSES" = some (some (.int 2 t_FEWEST_HOUSES))) (g_MOST_HOUSES : W.nsIn K mainGlobals "MOST_HOUSES" = some (some (.int 32 t_MOST_HOUSES))) (g_MOST_TIES_OUT : W.nsIn K mainGlobals "MOST_TIES_OUT" = some (some (.int 8 t_MOST_TIES_OUT))) (g_MOST_SIDES : W.nsIn K mainGlobals "MOST_SIDES" = some (some (.int 5 t_MOST_SIDES))) (g_SHORTEST_SIDE : W.nsIn K mainGlobals "SHORTEST_SIDE" = some (some (.int 2 t_SHORTEST_SIDE))) (g_LONGEST_SIDE : W.nsIn K mainGlobals "LONGEST_SIDE" = some (some (.int 8 t_LONGEST_SIDE))) (e_BeatError : ECls K x_BeatError) (e_NoShape : ECls K x_NoShape) (e_NoHouse : ECls K x_NoHouse) (kA : W.kitAny K (.ref x_NoShape) ([x_NoBerth,x_NoHanding,x_NoHouse,x_NoNet,x_NoPlan,x_NoRanks,x_NoRow,x_NoStand,x_NoText,x_NoTie,x_TooMany].map Value.ref) = some false) (kH : W.kitOne K (.ref x_NoShape) (.ref x_NoShape) = some true) (kVv : W.kitOne K (.ref x_NoShape) (.type "ValueError") = some true) (kS : W.subIn K (.ref x_NoShape) (.ref x_BeatError) = some true) (q_outs : W.codeHdIn K cO Pt = true) :
  ∃ fd : FuncData,(∀ (s : Shared) (v : Value),BindsTo s fd ⟨[v],[]⟩ [("_law_script",v)])∧∀ base : Heap,K.In base→base.Ns mainGlobals mg→BmOk mg base→FnOk l.prog w K mg base CX0 13 fa fd ["_law_script"] (sB K Pt):=by
 obtain ⟨f_law,oc,od,an,sl,kV,dc,pm,cd,ct,a_law,l_law,d_law,k_law⟩:=h_law
 have e:=hfa.symm.trans (W.mg_of X G a_law)
 cases e
 have F_law:=kR (x := "law") (qual := "law") (st:=sLaw) l_law d_law k_law
 obtain ⟨f_i,oci,odi,ani,sli,kVi,dci,pmi,cdi,cti,a_i,i_i,l_i,d_i,k_i⟩:=m_init
 have F_m_init:=kR (x := "__init__") (qual := "Net.__init__") (st:=rT) l_i d_i k_i
 have b_m_init:=F_m_init.binds (ps:=["self", "many", "ties"]) fun _ _ _ _ _ _ us hl=>match us,hl with | [_,_,_],_=>rfl
 have MK : Mk K C f_i:=⟨mk,a_i,i_i,kc⟩
 have B : Bl mg:=⟨W.mg_none_of X G z_isinstance,W.mg_none_of X G z_int,W.mg_none_of X G z_bool,W.mg_none_of X G z_tuple,W.mg_none_of X G z_list,W.mg_none_of X G z_str,W.mg_none_of X G z_set,W.mg_none_of X G z_len,W.mg_none_of X G z_range,W.mg_none_of X G z_sorted,W.mg_none_of X G z_any,W.mg_none_of X G z_max,W.mg_none_of X G z_min,W.mg_none_of X G z_ValueError,W.mg_none_of X G z_all⟩
 have T : NT K mg C:=⟨⟨pg,q_hd,po,sa⟩,nH,nT,nO,nD,W.mg_of X G aC⟩
 let c : Nat→Addr:=fun i=>[x_NoBerth,x_NoHanding,x_NoHouse,x_NoNet,x_NoPlan,x_NoRanks,x_NoRow,x_NoStand,x_NoText,x_NoTie,x_TooMany].getD i 0
 have R : Errs K mg x_BeatError x_NoShape c:=⟨⟨W.mg_of X G a_BeatError,e_BeatError⟩,⟨W.mg_of X G a_NoShape,e_NoShape⟩,W.mg_of X G a_NoBerth,W.mg_of X G a_NoHanding,W.mg_of X G a_NoHouse,W.mg_of X G a_NoNet,W.mg_of X G a_NoPlan,W.mg_of X G a_NoRanks,W.mg_of X G a_NoRow,W.mg_of X G a_NoStand,W.mg_of X G a_NoText,W.mg_of X G a_NoTie,W.mg_of X G a_TooMany,kA,kH,kVv,kS⟩
 have B3 : Bl3 mg:=⟨W.mg_none_of X G z_abs,W.mg_none_of X G z_sum,W.mg_none_of X G z_zip,W.mg_none_of X G z_repr⟩
 refine ⟨W.fnOf "law" "law" (cM sLaw) (bY sLaw) (aG sLaw) .none kV dc pm an cd ct,fun s v=>.of_eq rfl,fun base kb nb hb=>?_⟩
 have C_whole : Cal l.prog w K mg base CX0 1 "is_whole" ["thing"] (pU K):=FD.cal X G h_whole (fun _ _ _ _ _ _ us hl=>match us,hl with | [_],_=>rfl) fun F_whole=>aBO F_whole B
 have C_within : Cal l.prog w K mg base CX0 2 "is_whole_within" ["thing", "least", "most"] (iH K):=FD.cal X G h_within (fun _ _ _ _ _ _ us hl=>match us,hl with | [_,_,_],_=>rfl) fun F_within=>aAQ F_within C_whole
 have C_house : Cal l.prog w K mg base CX0 3 "is_house" ["many", "thing"] (lZ K):=FD.cal X G h_house (fun _ _ _ _ _ _ us hl=>match us,hl with | [_,_],_=>rfl) fun F_house=>aBQ F_house C_within
 have C_row : Cal l.prog w K mg base CX0 1 "is_row" ["thing", "length"] (rS K):=FD.cal X G h_row (fun _ _ _ _ _ _ us hl=>match us,hl with | [_,_],_=>rfl) fun F_row=>aD4 F_row B
 have C_unl : Cal l.prog w K mg base CX0 4 "are_unlike_houses" ["many", "one", "other"] yT:=FD.cal X G h_unl (fun _ _ _ _ _ _ us hl=>match us,hl with | [_,_,_],_=>rfl) fun F_unl=>aD8 F_unl C_house
 have C_tie : Cal l.prog w K mg base CX0 5 "is_tie" ["many", "thing"] yU:=FD.cal X G h_tie (fun _ _ _ _ _ _ us hl=>match us,hl with | [_,_],_=>rfl) fun F_tie=>aD9 F_tie C_row C_unl
 have C_cties : Cal l.prog w K mg base CX0 6 "check_ties" ["many", "ties"] hU:=FD.cal X G h_cties (fun _ _ _ _ _ _ us hl=>match us,hl with | [_,_],_=>rfl) fun F_cties=>aBT F_cties B ⟨_,W.mg_of X G g_FEWEST_HOUSES⟩ ⟨_,W.mg_of X G g_MOST_HOUSES⟩ C_within C_tie
 have C_bal : Cal l.prog w K mg base CX0 1 "check_balance" ["many", "ties"] hU:=FD.cal X G h_bal (fun _ _ _ _ _ _ us hl=>match us,hl with | [_,_],_=>rfl) fun F_bal=>aEa F_bal B ⟨_,W.mg_of X G g_MOST_TIES_OUT⟩
 have C_outs : Cal l.prog w K mg base CX0 1 "houses_out" ["many", "ties", "house"] (oV Pt):=FC.cal X G h_outs (fun _ _ _ _ _ _ us hl=>match us,hl with | [_,_,_],_=>rfl) fun F_outs=>aDb F_outs B kb hb q_outs
 have C_dist : Cal l.prog w K mg base CX0 1 "distances_from" ["out_lists", "start"] oW:=FD.cal X G h_dist (fun _ _ _ _ _ _ us hl=>match us,hl with | [_,_],_=>rfl) fun F_dist=>aDc F_dist B
 have C_reach : Cal l.prog w K mg base CX0 1 "check_reached" ["distances"] pZ:=FD.cal X G h_reach (fun _ _ _ _ _ _ us hl=>match us,hl with | [_],_=>rfl) fun F_reach=>aBV F_reach B
 have G_init : FnOk l.prog w K mg base CX0 7 f_i _ ["self", "many", "ties"] (uB C Pt):=aDe F_m_init T B C_cties C_bal C_outs C_dist C_reach
 have M_check : MCal l.prog w K mg base (CXf l.prog w) 4 C "check_house" ["self", "thing"] (mC K C x_NoHouse):=MD.cal m_check (fun _ _ _ _ _ _ us hl=>match us,hl with | [_,_],_=>rfl) fun F_m_check=>aBS F_m_check T ⟨W.mg_of X G a_NoHouse,e_NoHouse⟩ C_house
 have M_out : MCal l.prog w K mg base (CXf l.prog w) 5 C "out" ["self", "house"] (rV K C x_NoHouse aOut):=MD.cal m_out (fun _ _ _ _ _ _ us hl=>match us,hl with | [_,_],_=>rfl) fun F_m_out=>aD6 F_m_out T B M_check
 have M_far : MCal l.prog w K mg base (CXf l.prog w) 5 C "far" ["self", "one", "other"] (rW K C x_NoHouse):=MD.cal m_far (fun _ _ _ _ _ _ us hl=>match us,hl with | [_,_,_],_=>rfl) fun F_m_far=>aD7 F_m_far T M_check
 have M_span : MCal l.prog w K mg base CX0 1 C "span" ["self"] (uC C):=MD.cal m_span (fun _ _ _ _ _ _ us hl=>match us,hl with | [_],_=>rfl) fun F_m_span=>aDf F_m_span T B
 have M_good : MCal l.prog w K mg base (CXf l.prog w) 6 C "good" ["self", "house", "home"] (uD K C x_NoHouse):=MD.cal m_good (fun _ _ _ _ _ _ us hl=>match us,hl with | [_,_,_],_=>rfl) fun F_m_good=>aDg F_m_good T M_far
 have M_many : MCal l.prog w K mg base CX0 1 C "many" ["self"] (uE C):=MD.cal m_many (fun _ _ _ _ _ _ us hl=>match us,hl with | [_],_=>rfl) fun F_m_many=>aDi F_m_many T
 have M_ties : MCal l.prog w K mg base CX0 1 C "ties" ["self"] (oX C):=MD.cal m_ties (fun _ _ _ _ _ _ us hl=>match us,hl with | [_],_=>rfl) fun F_m_ties=>aDj F_m_ties T B
 have M_two : MCal l.prog w K mg base CX0 1 C "is_two_way" ["self"] (yX C):=MD.cal m_two (fun _ _ _ _ _ _ us hl=>match us,hl with | [_],_=>rfl) fun F_m_two=>aEg F_m_two T B
 have C_prod : Cal l.prog w K mg base CX0 1 "product" ["numbers"] (lJ K):=FD.cal X G h_prod (fun _ _ _ _ _ _ us hl=>match us,hl with | [_],_=>rfl) fun F_prod=>aDl F_prod
 have C_pairsN : Cal l.prog w K mg base CX0 9 "pairs_net" ["many", "pairs"] (nG C Pt):=FD.cal X G h_pairsN (fun _ _ _ _ _ _ us hl=>match us,hl with | [_,_],_=>rfl) fun F_pairsN=>aAZ F_pairsN B T MK b_m_init G_init C_row
 have C_csides : Cal l.prog w K mg base (CXf l.prog w) 3 "check_sides" ["sides"] (nI K x_NoShape):=FD.cal X G h_csides (fun _ _ _ _ _ _ us hl=>match us,hl with | [_],_=>rfl) fun F_csides=>aA1 F_csides B ⟨W.mg_of X G a_NoShape,e_NoShape⟩ ⟨_,W.mg_of X G g_MOST_SIDES⟩ ⟨_,W.mg_of X G g_SHORTEST_SIDE⟩ ⟨_,W.mg_of X G g_LONGEST_SIDE⟩ ⟨_,W.mg_of X G g_MOST_HOUSES⟩ C_within C_prod
 have C_bpairs : Cal l.prog w K mg base CX0 2 "box_pairs" ["sides"] nJ:=FD.cal X G h_bpairs (fun _ _ _ _ _ _ us hl=>match us,hl with | [_],_=>rfl) fun F_bpairs=>aA2 F_bpairs B C_prod
 have C_boxN : Cal l.prog w K mg base (CXf l.prog w) 10 "box_net" ["sides"] (lK K C Pt x_NoShape):=FD.cal X G h_boxN (fun _ _ _ _ _ _ us hl=>match us,hl with | [_],_=>rfl) fun F_boxN=>aDm F_boxN C_csides C_pairsN C_prod C_bpairs
 have C_pot : Cal l.prog w K mg base CX0 1 "_law_pot" ["_law_script", "_law_k"] (zC K):=FD.cal X G h_pot (fun _ _ _ _ _ _ us hl=>match us,hl with | [_,_],_=>rfl) fun F_pot=>aEj F_pot B
 have C_digit : Cal l.prog w K mg base CX0 1 "_law_digit" ["_law_pot_here", "_law_many"] eI:=FD.cal X G h_digit (fun _ _ _ _ _ _ us hl=>match us,hl with | [_,_],_=>rfl) fun F_digit=>aB1 F_digit
 have C_order : Cal l.prog w K mg base CX0 2 "_law_order" ["_law_pot_here", "_law_many"] qI:=FD.cal X G h_order (fun _ _ _ _ _ _ us hl=>match us,hl with | [_,_],_=>rfl) fun F_order=>aB6 F_order B C_digit
 have C_sides : Cal l.prog w K mg base CX0 3 "_law_sides" ["_law_pot_here"] qJ:=FD.cal X G h_sides (fun _ _ _ _ _ _ us hl=>match us,hl with | [_],_=>rfl) fun F_sides=>aB8 F_sides B C_digit C_order
 have C_thing : Cal l.prog w K mg base CX0 2 "_law_thing" ["_law_pot_here"] qM:=FD.cal X G h_thing (fun _ _ _ _ _ _ us hl=>match us,hl with | [_],_=>rfl) fun F_thing=>aB9 F_thing C_digit
 have C_spoilt : Cal l.prog w K mg base CX0 3 "_law_spoilt" ["_law_pot_here", "_law_step", "_law_sides_here"] nN:=FD.cal X G h_spoilt (fun _ _ _ _ _ _ us hl=>match us,hl with | [_,_,_],_=>rfl) fun F_spoilt=>aBc F_spoilt B C_digit C_thing
 have C_isSide : Cal l.prog w K mg base CX0 1 "_law_is_side" ["_law_thing_here"] (kE K):=FD.cal X G h_isSide (fun _ _ _ _ _ _ us hl=>match us,hl with | [_],_=>rfl) fun F_isSide=>aA4 F_isSide B
 have C_houses : Cal l.prog w K mg base CX0 2 "_law_houses" ["_law_sides_here"] (nK K):=FD.cal X G h_houses (fun _ _ _ _ _ _ us hl=>match us,hl with | [_],_=>rfl) fun F_houses=>aA5 F_houses B C_isSide
 have C_place : Cal l.prog w K mg base CX0 1 "_law_place" ["_law_sides_here", "_law_house"] mH:=FD.cal X G h_place (fun _ _ _ _ _ _ us hl=>match us,hl with | [_,_],_=>rfl) fun F_place=>aB3 F_place
 have C_lpairs : Cal l.prog w K mg base CX0 2 "_law_pairs" ["_law_sides_here", "_law_many"] nM:=FD.cal X G h_lpairs (fun _ _ _ _ _ _ us hl=>match us,hl with | [_,_],_=>rfl) fun F_lpairs=>aA8 F_lpairs B B3 C_place
 have C_refused : CalW l.prog w K mg base 1 "_law_refused" ["_law_e"] (lM x_NoShape):=FD.calW X G h_refused (fun _ _ _ _ _ _ us hl=>match us,hl with | [_],_=>rfl) fun F_refused=>zF F_refused B R
 have C_made : Cal l.prog w K mg base CX0 11 "_law_made" ["_law_sides_here"] (uU K C Pt):=FD.cal X G h_made (fun _ _ _ _ _ _ us hl=>match us,hl with | [_],_=>rfl) fun F_made=>aDx F_made R C_boxN C_refused
 have C_leads : Cal l.prog w K mg base CX0 1 "_law_leads" ["_law_many", "_law_ties"] qN:=FD.cal X G h_leads (fun _ _ _ _ _ _ us hl=>match us,hl with | [_,_],_=>rfl) fun F_leads=>aCa F_leads B
 have C_fars : Cal l.prog w K mg base CX0 1 "_law_fars" ["_law_leads_here", "_law_house"] pF:=FD.cal X G h_fars (fun _ _ _ _ _ _ us hl=>match us,hl with | [_,_],_=>rfl) fun F_fars=>aDA F_fars B
 have C_tied : Cal l.prog w K mg base CX0 7 "_law_as_tied" ["_law_pot_here", "_law_net", "_law_many", "_law_ties"] (uW C):=FD.cal X G h_tied (fun _ _ _ _ _ _ us hl=>match us,hl with | [_,_,_,_],_=>rfl) fun F_tied=>aDB F_tied B T C_digit C_leads C_fars M_out M_far M_good M_span
 have C_right : Cal l.prog w K mg base CX0 12 "_law_right" ["_law_pot_here", "_law_sides_here"] (qP K Pt):=FD.cal X G h_right (fun _ _ _ _ _ _ us hl=>match us,hl with | [_,_],_=>rfl) fun F_right=>aCc F_right T C_houses C_lpairs C_made C_tied M_many M_ties M_two
 exact aEn F_law B B3 T C_pot C_digit C_sides C_spoilt C_right C_boxN M_ties
theorem aE6 {K : W.Frag} {P : Addr} (h : ((List.range 2000).any fun c=>W.codeHdIn K c P) = true) : ∃ c,W.codeHdIn K c P = true :=
 let ⟨c,_,e⟩:=List.any_eq_true.mp h; ⟨c,e⟩
theorem aEp {K : W.Frag} {H : Hp} {a : Addr} {xs : List V} {ts : List Addr} (hO : rP ts H) (h : SqL K H a xs) : SqF K H a xs:=by
 rcases h with h | h
 ·rcases h with h | ⟨o,h⟩
  ·rcases hO.2 a with z | ⟨_,z⟩ | ⟨o,ys,z⟩ <;> · rw [h] at z; cases z
  ·exact .inl ⟨o,h⟩
 ·exact .inr fun H'=>.inr h
theorem walk {l : W.OpenLaw} {q : Program} {loose : List Str} {XP : (Str→Option Value)→Heap→Prop} {YP : World→Heap→Prop} {d : DefRec} {K : Params→W.Frag} {Pt : Addr} (hn : l.most = some 63) (hdf : d.params.defaults = [])
  (hY : ∀ (w : World) (h : Heap),YP w h→(K w.params).In h) (hT : ∀ (w : World) (h : Heap),YP w h→∀ P∈[Pt],h.get? P = some (W.tabObj #[]))
  (hcd : ∀ (w : World),((List.range 2000).any fun c=>W.codeHdIn (K w.params) c Pt) = true) (hkt : ∀ (w : World),(K w.params).lookup Pt = none)
  (F : ∀ (w : World) (mg : Str→Option Value) (fa : Addr) (h : Heap),(K w.params).In h→h.Ns mainGlobals mg→mg d.name = some (.ref fa) →
   ∃ fd : FuncData,(∀ (s : Shared) (u : Value),BindsTo s fd ⟨[u],[]⟩ [("_law_script",u)])∧∀ base : Heap,(K w.params).In base→base.Ns mainGlobals mg→BmOk mg base→FnOk l.prog w (K w.params) mg base CX0 13 fa fd ["_law_script"] (sB (K w.params) Pt)) :
  W.WalkO q loose XP YP l.row.toRowW d [] (fun f vs=>PySem.call f vs) :=
 aBF (n:=63) (k:=13) (x := "_law_script") (ts:=[Pt]) (K:=K) (CX:=fun _=>CX0) (sp:=fun w=>(sB (K w.params) Pt)) hn (by decide) hdf ⟨rfl,by decide,by decide,rfl⟩ hY hT
  (fun w P hP=>by rw [List.mem_singleton.mp hP]; exact aE6 (hcd w)) (fun w P hP=>by rw [List.mem_singleton.mp hP]; exact hkt w) F
  (fun w H a ns hl hO hS=>⟨a,ns,rfl,aEp hO hS,hl,.inl (hO.1 _ (by simp)),fun _=>rfl⟩) fun _ _ _ _ _ z=>z
end K12
open PySem PySem.W PyProof.Rows
namespace PySem.W.Fast
theorem tw9126918556491346788:True:=⟨⟩
theorem tw7380560813949658464:True:=⟨⟩
theorem tw7373497687353237029:True:=⟨⟩
theorem tw11816693866831931928:True:=⟨⟩
theorem tw6585438575257928618:True:=⟨⟩
theorem tw1459102962788749468:True:=⟨⟩
theorem tw18305541151358607889:True:=⟨⟩
theorem tw18345040416450147604:True:=⟨⟩
theorem tw15051123514079424446:True:=⟨⟩
theorem tw13568667174805614169:True:=⟨⟩
theorem tw3056127440756842096:True:=⟨⟩
theorem tw5544314055433622033:True:=⟨⟩
theorem tw10527263880410937854:True:=⟨⟩
theorem tw8984252815974378651:True:=⟨⟩
theorem tw5174896531797433166:True:=⟨⟩
theorem tw2002285746532645967:True:=⟨⟩
theorem tw11320895742337172906:True:=⟨⟩
theorem tw10770279571314824612:True:=⟨⟩
theorem tw17602499120756954280:True:=⟨⟩
theorem tw5645854036113249656:True:=⟨⟩
theorem tw4202149697547386096:True:=⟨⟩
theorem tw12109775022322681545:True:=⟨⟩
theorem tw7952316868323457228:True:=⟨⟩
theorem tw14155632730629527874:True:=⟨⟩
theorem tw9347767351850451855:True:=⟨⟩
theorem tw13024132493252622601:True:=⟨⟩
theorem tw14356542259943205500:True:=⟨⟩
theorem tw13498776976962445456:True:=⟨⟩
theorem tw8142416480344739822:True:=⟨⟩
theorem tw17522158894863425574:True:=⟨⟩
theorem tw6458002910167541982:True:=⟨⟩
theorem tw7562049279278448427:True:=⟨⟩
theorem tw12039694106970849098:True:=⟨⟩
theorem tw10257819936410779854:True:=⟨⟩
theorem tw14513693440085278740:True:=⟨⟩
theorem tw3708266987317396816:True:=⟨⟩
theorem tw8725852671168949585:True:=⟨⟩
theorem tw3896043409324741028:True:=⟨⟩
theorem tw1547279257310257351:True:=⟨⟩
theorem tw9378158373744692356:True:=⟨⟩
theorem tw12856719192581782797:True:=⟨⟩
theorem tw4955446476256046527:True:=⟨⟩
theorem tw18010789689993133319:True:=⟨⟩
theorem tw12779142825539685780:True:=⟨⟩
theorem tw13241539892440382613:True:=⟨⟩
theorem tw5638892601484797444:True:=⟨⟩
theorem tw15323073966480772068:True:=⟨⟩
theorem tw947608003569212083:True:=⟨⟩
theorem tw9702291080109262761:True:=⟨⟩
theorem tw5423530068584408770:True:=⟨⟩
theorem tw9769515079707483535:True:=⟨⟩
theorem tw8927868004324501783:True:=⟨⟩
theorem tw16579255704500951980:True:=⟨⟩
theorem tw16540511096773771821:True:=⟨⟩
theorem tw12944675970545138797:True:=⟨⟩
theorem tw7939520842744229426:True:=⟨⟩
theorem tw6581916504222693227:True:=⟨⟩
theorem tw13927979662372356303:True:=⟨⟩
theorem tw3495776627967080295:True:=⟨⟩
theorem tw3429458062624488900:True:=⟨⟩
theorem tw12864284831506570075:True:=⟨⟩
theorem tw4437418557142143975:True:=⟨⟩
theorem tw8426124617573787148:True:=⟨⟩
theorem tw545282050023478792:True:=⟨⟩
theorem tw8696241922089813080:True:=⟨⟩
theorem tw7690403931159737104:True:=⟨⟩
theorem tw6794762637246789647:True:=⟨⟩
theorem tw10379664194240787470:True:=⟨⟩
theorem tw4930749535234394634:True:=⟨⟩
theorem tw8730286997244686667:True:=⟨⟩
theorem tw6867925923511453221:True:=⟨⟩
theorem tw9987790366081865690:True:=⟨⟩
theorem tw16638204679583393458:True:=⟨⟩
theorem tw9962451114786926355:True:=⟨⟩
theorem tw4134485356632349906:True:=⟨⟩
theorem tw4447047446483387556:True:=⟨⟩
theorem tw16546512890922833266:True:=⟨⟩
theorem tw4851827557868274713:True:=⟨⟩
theorem tw11445696786463091627:True:=⟨⟩
theorem tw5668864762721938000:True:=⟨⟩
theorem tw16819150618385534240:True:=⟨⟩
theorem tw13167269612585335722:True:=⟨⟩
theorem tw1671213833986700451:True:=⟨⟩
theorem tw17297967956158753266:True:=⟨⟩
theorem tw4918802389626295681:True:=⟨⟩
theorem tw11476528967822251809:True:=⟨⟩
theorem tw7528849927097235556:True:=⟨⟩
theorem tw3701204803201699243:True:=⟨⟩
theorem tw5156526926615110269:True:=⟨⟩
theorem tw14671168060978308226:True:=⟨⟩
theorem tw4650403892736828553:True:=⟨⟩
theorem tw10876270683502795695:True:=⟨⟩
theorem tw10370339670096609032:True:=⟨⟩
theorem tw3438216476208961639:True:=⟨⟩
theorem tw5483440558638470782:True:=⟨⟩
theorem tw15571707534626030424:True:=⟨⟩
theorem tw4570749563791762433:True:=⟨⟩
theorem tw7075985537997729772:True:=⟨⟩
theorem tw8756759190605799327:True:=⟨⟩
theorem tw6183594728258034939:True:=⟨⟩
theorem tw9305253256974063552:True:=⟨⟩
theorem tw16444253188670687486:True:=⟨⟩
theorem tw10209421766554198048:True:=⟨⟩
theorem tw8191531317318485687:True:=⟨⟩
theorem tw5187255577768999232:True:=⟨⟩
theorem tw16968533640077464581:True:=⟨⟩
theorem tw8112945992169003704:True:=⟨⟩
theorem tw18189629320124418246:True:=⟨⟩
theorem tw382277337191119496:True:=⟨⟩
theorem tw3971344815427907962:True:=⟨⟩
theorem tw17514632226732519621:True:=⟨⟩
theorem tw13607259928282269424:True:=⟨⟩
theorem tw2465005012128676300:True:=⟨⟩
theorem tw8241947970923620385:True:=⟨⟩
theorem tw14049283549734315009:True:=⟨⟩
theorem tw10881883175603281663:True:=⟨⟩
theorem tw12538998263831136841:True:=⟨⟩
theorem tw8724716691399445441:True:=⟨⟩
theorem tw5966590633729546365:True:=⟨⟩
theorem tw13796321568515194259:True:=⟨⟩
theorem tw15158905355204298852:True:=⟨⟩
theorem tw4108293139867232863:True:=⟨⟩
theorem tw11783659040142666996:True:=⟨⟩
theorem tw12044926363772464886:True:=⟨⟩
theorem tw4359180758767284033:True:=⟨⟩
theorem tw17821915761247038448:True:=⟨⟩
theorem tw7447523615983209097:True:=⟨⟩
theorem tw3504923282423988094:True:=⟨⟩
theorem tw4298912578426867956:True:=⟨⟩
theorem tw13873749192991786165:True:=⟨⟩
theorem tw5879434142690718199:True:=⟨⟩
theorem tw1290069300062385889:True:=⟨⟩
theorem tw17655580091734831061:True:=⟨⟩
theorem tw16655938640224138609:True:=⟨⟩
theorem tw14743990298379280564:True:=⟨⟩
theorem tw3851095882113874216:True:=⟨⟩
theorem tw10008805703976304040:True:=⟨⟩
theorem tw9201351194454678474:True:=⟨⟩
theorem tw9685795611657311623:True:=⟨⟩
theorem tw17772527226424741541:True:=⟨⟩
theorem tw9342102158747907226:True:=⟨⟩
theorem tw1384700846380194736:True:=⟨⟩
theorem tw8632561573083946899:True:=⟨⟩
theorem tw15369228129068063528:True:=⟨⟩
theorem tw17320670579854117102:True:=⟨⟩
theorem tw14395136949132759604:True:=⟨⟩
theorem tw7727142423596607234:True:=⟨⟩
theorem tw17792278372411261739:True:=⟨⟩
theorem tw10787379736029357812:True:=⟨⟩
theorem tw5185831496906895146:True:=⟨⟩
theorem tw17937457164961845771:True:=⟨⟩
theorem tw12904406333799748093:True:=⟨⟩
theorem tw13249048480972777518:True:=⟨⟩
theorem tw9689648719961640255:True:=⟨⟩
theorem tw14667463410394125857:True:=⟨⟩
theorem tw7709275265904166023:True:=⟨⟩
theorem tw3622101494052541338:True:=⟨⟩
theorem tw9402418705836853540:True:=⟨⟩
theorem tw17239449946623270807:True:=⟨⟩
theorem tw4191136258673237590:True:=⟨⟩
theorem tw17480971692599123657:True:=⟨⟩
theorem tw11388692217553836102:True:=⟨⟩
theorem tw6532600262896688020:True:=⟨⟩
theorem tw1278390102408099036:True:=⟨⟩
theorem tw17474921913882947697:True:=⟨⟩
theorem tw13261303594767339603:True:=⟨⟩
theorem tw1706738366378356851:True:=⟨⟩
theorem tw15787711879628634094:True:=⟨⟩
theorem tw3927541631143843342:True:=⟨⟩
theorem tw10416155709866445504:True:=⟨⟩
theorem tw10537419581536640545:True:=⟨⟩
theorem tw15707057653332159023:True:=⟨⟩
theorem tw3968450573182659358:True:=⟨⟩
theorem tw7746683033481837852:True:=⟨⟩
theorem tw3341512949596148655:True:=⟨⟩
theorem tw13926774453552723142:True:=⟨⟩
theorem tw13633851809295013817:True:=⟨⟩
theorem tw6207796977384266665:True:=⟨⟩
theorem tw4927110114976541277:True:=⟨⟩
theorem tw14379888291637753699:True:=⟨⟩
theorem tw6083159335572271704:True:=⟨⟩
theorem tw1167019179357838083:True:=⟨⟩
theorem tw16385949803829382545:True:=⟨⟩
theorem tw12358619521371908273:True:=⟨⟩
theorem tw7366721838647077607:True:=⟨⟩
theorem tw18412008224519346147:True:=⟨⟩
theorem tw2494752584106907140:True:=⟨⟩
theorem tw16295127289276467503:True:=⟨⟩
theorem tw8805112188412850801:True:=⟨⟩
theorem tw8302730974235263055:True:=⟨⟩
theorem tw10948041434407741044:True:=⟨⟩
theorem tw17462640648613276264:True:=⟨⟩
theorem tw1285202354633092602:True:=⟨⟩
theorem tw4836749551290026763:True:=⟨⟩
theorem tw7279736736126604795:True:=⟨⟩
theorem tw3269931642416296048:True:=⟨⟩
theorem tw5453659398110687081:True:=⟨⟩
theorem tw7538817813384572385:True:=⟨⟩
theorem tw17715691061427669007:True:=⟨⟩
theorem tw2608666031350672336:True:=⟨⟩
theorem tw5983985010686307679:True:=⟨⟩
theorem tw3919607332082358289:True:=⟨⟩
theorem tw3232143257011726490:True:=⟨⟩
theorem tw6151000866073232534:True:=⟨⟩
theorem tw9828444436402044021:True:=⟨⟩
theorem tw14632179083878512127:True:=⟨⟩
theorem tw16462163590437529816:True:=⟨⟩
theorem tw3540059626532125280:True:=⟨⟩
theorem tw17985567913331712016:True:=⟨⟩
theorem tw9034272200804051075:True:=⟨⟩
theorem tw7087844101553102936:True:=⟨⟩
theorem tw16869949791440194306:True:=⟨⟩
theorem tw11674432885636259604:True:=⟨⟩
theorem tw11939837962481054240:True:=⟨⟩
theorem tw6418983903683339576:True:=⟨⟩
theorem tw11995446122596693078:True:=⟨⟩
theorem tw538527688278205306:True:=⟨⟩
theorem tw12304327961148100692:True:=⟨⟩
theorem tw7383149145786372333:True:=⟨⟩
theorem tw5285101642196639451:True:=⟨⟩
theorem tw2843615971944910457:True:=⟨⟩
theorem tw3749019056951017995:True:=⟨⟩
theorem tw2038374926526224169:True:=⟨⟩
theorem tw12628118758837719829:True:=⟨⟩
theorem tw3758495376184580928:True:=⟨⟩
theorem tw4895523903649240284:True:=⟨⟩
theorem tw10666340176324113015:True:=⟨⟩
theorem tw2387127107061866900:True:=⟨⟩
theorem tw9229600761020907612:True:=⟨⟩
theorem tw4357925574144842326:True:=⟨⟩
theorem tw3432285036574178999:True:=⟨⟩
theorem tw6401354962134647263:True:=⟨⟩
theorem tw9344146283340703504:True:=⟨⟩
theorem tw5982441457376951012:True:=⟨⟩
theorem tw17821620703355982800:True:=⟨⟩
theorem tw17743606741951150375:True:=⟨⟩
theorem tw9474254982608329110:True:=⟨⟩
theorem tw2025967140191468120:True:=⟨⟩
theorem tw13373475308978286022:True:=⟨⟩
theorem tw16528364090995336288:True:=⟨⟩
theorem tw8085488167645112990:True:=⟨⟩
theorem tw6331091889898800228:True:=⟨⟩
theorem tw14913472258499155063:True:=⟨⟩
theorem tw2296233081487201335:True:=⟨⟩
theorem tw13178955753191391201:True:=⟨⟩
theorem tw9090864202764056610:True:=⟨⟩
theorem tw10840427326843753904:True:=⟨⟩
theorem tw1482594883183805444:True:=⟨⟩
theorem tw2992667081881880489:True:=⟨⟩
theorem tw3098355882348800972:True:=⟨⟩
theorem tw15413808503780705810:True:=⟨⟩
theorem tw13971535591531383991:True:=⟨⟩
theorem tw12583868731382006306:True:=⟨⟩
theorem tw10725794206763780104:True:=⟨⟩
theorem tw2070984229068883839:True:=⟨⟩
theorem tw14376378302067243883:True:=⟨⟩
theorem tw271385687656448052:True:=⟨⟩
theorem tw10746081231194300960:True:=⟨⟩
theorem tw17956221279099706708:True:=⟨⟩
theorem tw167756309894573511:True:=⟨⟩
theorem tw10744513638524080515:True:=⟨⟩
theorem tw18258681582762539145:True:=⟨⟩
theorem tw6842349394855666627:True:=⟨⟩
theorem tw15907091430692550425:True:=⟨⟩
theorem tw1138597806151679823:True:=⟨⟩
theorem tw17899170267778109493:True:=⟨⟩
theorem tw8762351877562334217:True:=⟨⟩
theorem tw18252031348361983776:True:=⟨⟩
theorem tw7981660437761907470:True:=⟨⟩
theorem tw17636913515974873722:True:=⟨⟩
theorem tw7338299264310957527:True:=⟨⟩
theorem tw16196876154193661673:True:=⟨⟩
theorem tw2297618848181085175:True:=⟨⟩
theorem tw17268557169425117874:True:=⟨⟩
theorem tw8513634720270255421:True:=⟨⟩
theorem tw17696182257015411115:True:=⟨⟩
theorem tw783909842151532426:True:=⟨⟩
theorem tw17491250290364847814:True:=⟨⟩
theorem tw11875288607668653539:True:=⟨⟩
theorem tw12754753556919659808:True:=⟨⟩
theorem tw281711521410678543:True:=⟨⟩
theorem tw4625130669101812557:True:=⟨⟩
theorem tw16791016577565368487:True:=⟨⟩
theorem tw7765693503385315211:True:=⟨⟩
theorem tw6347617439810156746:True:=⟨⟩
theorem tw7140816194389827213:True:=⟨⟩
theorem tw6917177373359302753:True:=⟨⟩
theorem tw9251203786868025737:True:=⟨⟩
theorem tw6355632952281463221:True:=⟨⟩
theorem tw17324672817125465377:True:=⟨⟩
theorem tw1400489036270298665:True:=⟨⟩
theorem tw5737785538955539119:True:=⟨⟩
theorem tw4673377293418901947:True:=⟨⟩
theorem tw4660683142573269369:True:=⟨⟩
theorem tw14799180101990220364:True:=⟨⟩
theorem tw12561616118576928925:True:=⟨⟩
theorem tw16965255806163261273:True:=⟨⟩
theorem tw1394054911660772551:True:=⟨⟩
theorem tw5430591954648225660:True:=⟨⟩
theorem tw13692725274010435074:True:=⟨⟩
theorem tw11472378613587775119:True:=⟨⟩
theorem tw6834909578481386139:True:=⟨⟩
theorem tw217049103554013153:True:=⟨⟩
theorem tw7473355053420764172:True:=⟨⟩
theorem tw17937409134100323761:True:=⟨⟩
theorem tw15732046050281090717:True:=⟨⟩
theorem tw1230322835805951454:True:=⟨⟩
theorem tw6781139150058421909:True:=⟨⟩
theorem tw1522817341801281708:True:=⟨⟩
theorem tw18374809785316737446:True:=⟨⟩
theorem tw6834286320034605909:True:=⟨⟩
theorem tw2671117000531648969:True:=⟨⟩
theorem tw9894231484180473284:True:=⟨⟩
theorem tw15534825078500786838:True:=⟨⟩
theorem tw2324797774067555769:True:=⟨⟩
theorem tw13571093622611749690:True:=⟨⟩
theorem tw2453515693187027834:True:=⟨⟩
theorem tw5682129881934592474:True:=⟨⟩
theorem tw12526108918349486146:True:=⟨⟩
theorem tw7578238135253872908:True:=⟨⟩
theorem tw1025207320070084681:True:=⟨⟩
theorem tw15080010618829768187:True:=⟨⟩
theorem tw9791717554378464554:True:=⟨⟩
theorem tw8125812530072065773:True:=⟨⟩
theorem tw1807605681784654555:True:=⟨⟩
theorem tw15576359075429822513:True:=⟨⟩
theorem tw11332031985294689045:True:=⟨⟩
theorem tw2142083759970968555:True:=⟨⟩
theorem tw7849919675154898963:True:=⟨⟩
theorem tw4173939849547800792:True:=⟨⟩
theorem tw1459523459159693858:True:=⟨⟩
theorem tw12956017001938631034:True:=⟨⟩
theorem tw6339319162880317908:True:=⟨⟩
theorem tw16064414927013106118:True:=⟨⟩
theorem tw17374943646181038751:True:=⟨⟩
theorem tw15061709222350776011:True:=⟨⟩
theorem tw10528179824086409151:True:=⟨⟩
theorem tw7631736224816316913:True:=⟨⟩
theorem tw16685260210995876700:True:=⟨⟩
theorem tw2946591386230625271:True:=⟨⟩
theorem tw13996017192835489604:True:=⟨⟩
theorem tw7030948582777355406:True:=⟨⟩
theorem tw2690908344564064393:True:=⟨⟩
theorem tw791661490140448982:True:=⟨⟩
theorem tw3328436673076326355:True:=⟨⟩
theorem tw8182403738017397876:True:=⟨⟩
theorem tw7118861249666504381:True:=⟨⟩
theorem tw7385158664543986537:True:=⟨⟩
theorem tw2713934388943560073:True:=⟨⟩
theorem tw16979010186530735897:True:=⟨⟩
theorem tw7508300794292020200:True:=⟨⟩
theorem tw17231198267810771750:True:=⟨⟩
theorem tw10746604408528560360:True:=⟨⟩
theorem tw11998120138084459003:True:=⟨⟩
theorem tw16066369025067620815:True:=⟨⟩
theorem tw15530899295511550476:True:=⟨⟩
theorem tw7844755700965262330:True:=⟨⟩
theorem tw6460791178818195518:True:=⟨⟩
theorem tw9529966332994602798:True:=⟨⟩
theorem tw8823232908341043060:True:=⟨⟩
theorem tw8678745813405339528:True:=⟨⟩
theorem tw6937983251041571921:True:=⟨⟩
theorem tw10237553137150697589:True:=⟨⟩
theorem tw9230165834934225993:True:=⟨⟩
theorem tw1001519458688442705:True:=⟨⟩
theorem tw14273666700263785889:True:=⟨⟩
theorem tw6335030560847963855:True:=⟨⟩
theorem tw14902390593818866192:True:=⟨⟩
theorem tw8595125804947021462:True:=⟨⟩
theorem tw66064276614478118:True:=⟨⟩
theorem tw4533986849779075786:True:=⟨⟩
theorem tw13104641461045379881:True:=⟨⟩
theorem tw16300458358065421093:True:=⟨⟩
theorem tw2896773924268967912:True:=⟨⟩
theorem tw13345181004939238088:True:=⟨⟩
theorem tw17327234430508966614:True:=⟨⟩
theorem tw18195200275365203325:True:=⟨⟩
theorem tw5144512400015206172:True:=⟨⟩
theorem tw9201063338224421778:True:=⟨⟩
theorem tw668161402808094496:True:=⟨⟩
theorem tw5771752055995839923:True:=⟨⟩
theorem tw2537733818060443541:True:=⟨⟩
theorem tw1402369625600673184:True:=⟨⟩
theorem tw10611263992770810061:True:=⟨⟩
theorem tw13672390172297318574:True:=⟨⟩
theorem tw3623116987572428949:True:=⟨⟩
theorem tw17618622501177779343:True:=⟨⟩
theorem tw464698915523083594:True:=⟨⟩
theorem tw13905960406655395806:True:=⟨⟩
theorem tw21210508020143995:True:=⟨⟩
theorem tw17524702675859462185:True:=⟨⟩
theorem tw9130065024008546275:True:=⟨⟩
theorem tw7603630943801656899:True:=⟨⟩
theorem tw16528645706351982719:True:=⟨⟩
theorem tw16283232710096365372:True:=⟨⟩
theorem tw470005913279243387:True:=⟨⟩
theorem tw6281786827676362419:True:=⟨⟩
theorem tw1035598660051978319:True:=⟨⟩
theorem tw7267387412251891369:True:=⟨⟩
theorem tw4187092946614519894:True:=⟨⟩
theorem tw7551916351001313818:True:=⟨⟩
theorem tw17162325760540252951:True:=⟨⟩
theorem tw17291933415792730137:True:=⟨⟩
theorem tw10441372869197471381:True:=⟨⟩
theorem tw11181031443167213680:True:=⟨⟩
theorem tw2506535008649565168:True:=⟨⟩
theorem tw4056778072847721319:True:=⟨⟩
theorem tw13330578545524724885:True:=⟨⟩
theorem tw8564661771503962310:True:=⟨⟩
theorem tw18362138225561031840:True:=⟨⟩
theorem tw17910293687656047505:True:=⟨⟩
theorem tw7261216973654491593:True:=⟨⟩
theorem tw6660076382419868575:True:=⟨⟩
theorem tw4820872133204230329:True:=⟨⟩
theorem tw143118848269389528:True:=⟨⟩
theorem tw4895959856613085033:True:=⟨⟩
theorem tw1328543542805416185:True:=⟨⟩
theorem tw13719870231512370721:True:=⟨⟩
theorem tw10080208851947449995:True:=⟨⟩
theorem tw13018266459331215922:True:=⟨⟩
theorem tw6247992155033636901:True:=⟨⟩
theorem tw9705075928691391263:True:=⟨⟩
theorem tw4998856071910003088:True:=⟨⟩
theorem tw17722943753876503002:True:=⟨⟩
theorem tw841876284866653294:True:=⟨⟩
theorem tw6504643067260228009:True:=⟨⟩
theorem tw3178896209440002575:True:=⟨⟩
theorem tw16494922572293316813:True:=⟨⟩
theorem tw17489830815559553532:True:=⟨⟩
theorem tw1592647168391427380:True:=⟨⟩
theorem tw3447823518464575110:True:=⟨⟩
theorem tw3360191477130874712:True:=⟨⟩
theorem tw9597813571236483609:True:=⟨⟩
theorem tw3381603855314169206:True:=⟨⟩
theorem tw11626326618650788735:True:=⟨⟩
theorem tw6093379861721783638:True:=⟨⟩
theorem tw11409012990617281038:True:=⟨⟩
theorem tw5856916972830286959:True:=⟨⟩
theorem tw1548248470207420208:True:=⟨⟩
theorem tw1681273320955749825:True:=⟨⟩
theorem tw8707065330210674300:True:=⟨⟩
theorem tw12306452481835220500:True:=⟨⟩
theorem tw16052488299844439855:True:=⟨⟩
theorem tw14324955919945359385:True:=⟨⟩
theorem tw391274010873803381:True:=⟨⟩
theorem tw2826185210265821383:True:=⟨⟩
theorem tw4757863797206128372:True:=⟨⟩
theorem tw14960797770063882277:True:=⟨⟩
theorem tw1399553877975219031:True:=⟨⟩
theorem tw9676218382803049098:True:=⟨⟩
theorem tw13826208828596810826:True:=⟨⟩
theorem tw67630627502463567:True:=⟨⟩
theorem tw9024002027664588818:True:=⟨⟩
theorem tw5958719975940488575:True:=⟨⟩
theorem tw75376266152901425:True:=⟨⟩
theorem tw2355936818529414890:True:=⟨⟩
end PySem.W.Fast
set_option maxRecDepth 100000 in
set_option maxHeartbeats 0 in
theorem PySem.Challenge.cw_neverwait_k13_boxes_holds : PySem.Challenge.rw_neverwait_k13_boxes.Holds := by
 w_on; o_law; k_head; (case hw=>w_witness2)
 k_fill
 refine K12.walk (l:=PySem.Challenge.rw_neverwait_k13_boxes) (Pt:=_) rfl rfl (fun w h Y=>PySem.W.km_in_of Y) (fun w h Y=>PySem.W.km_tabs_of Y) ?cd ?kt ?F
 case F =>
  intro w mg fa h KX G hmg
  refine' K12.aEo (Pt:=_) KX G hmg ?_ ?_ ?_ ?_ ?_ ?_ ?_ ?_ ?_ ?_ ?_ ?_ ?_ ?_ ?_ ?_ ?_ ?_ ?_ ?_ ?_ ?_ ?_ ?_ ?_ ?_ ?_ ?_ ?_ ?_ ?_ ?_ ?_ ?_ ?_ ?_ ?_ ?_ ?_ ?_ ?_ ?_ ?_ ?_ ?_ ?_ ?_ ?_ ?_ ?_ ?_ ?_ ?_ ?_ ?_ ?_ ?_ ?_ ?_ ?_ ?_ ?_ ?_ ?_ ?_ ?_ ?_ ?_ ?_ ?_ ?_ ?_ ?_ ?_ ?_ ?_ ?_ ?_ ?_ ?_ ?_ ?_ ?_ ?_ ?_ ?_ ?_ ?_ ?_ ?_ ?_ ?_ ?_ ?_ ?_ ?_ ?_ ?_ ?_
  all_goals first
   | (refine' K12.FD.mk ?a ?l ?d ?k; (case a=>k_is); (case l=>k_is); (case d=>k_is); (case k=>k_is))
   | (refine' K12.FC.mk ?a ?l ?d ?k; (case a=>k_is); (case l=>k_is); (case d=>k_is); (case k=>k_is))
   | (refine' K12.MD.mk ?a ?i ?l ?d ?k; (case a=>k_is); (case i=>k_is); (case l=>k_is); (case d=>k_is); (case k=>k_is))
   | k_is
   | kernel_rfl
   | exact ⟨by kernel_rfl,by k_is,by k_is,by k_is,by k_is,by k_is,by k_is,by kernel_rfl⟩
   | skip
 case kt=>intro w; kernel_rfl
 case cd=>intro w; kernel_rfl
