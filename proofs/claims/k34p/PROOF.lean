import PyProof.Rows.All
import Wide.All
import OpenK.AllK
import Wide.FinOn
import Lean
import PyProof.EqAt
import PyProof.EqKinds
import PyProof.TupleCall
import PySem.Challenge.RW_neverwait_k34_hands_in_turn
set_option Elab.async false
set_option linter.all false
set_option maxRecDepth 100000
set_option maxHeartbeats 8000000
namespace L2
open PySem PySem.Spec PyProof.Rows
abbrev Key:=Sum Int Str
def lL:Key→Value→Bool
 |.inl k,v=>Value.isInt k v
 |.inr x,v=>Value.isStrOf x v
def keyH(w:World):Key→Int
 |.inl k=>hashInt k
 |.inr x=>hashStr w x
theorem cT:∀ {k:Key} {v:Value},lL k v=true→(∃i t,k=Sum.inl i∧v=Value.int i t)∨(∃x t,k=Sum.inr x∧v=Value.str x t)
 |.inl i,v,h=>by
  obtain⟨t,e⟩:=Value.isInt_shape (k:=i) (v:=v) h
  exact .inl ⟨i,t,rfl,e⟩
 |.inr x,v,h=>by
  obtain⟨t,e⟩:=Value.isStrOf_shape (x:=x) (v:=v) h
  exact .inr ⟨x,t,rfl,e⟩
theorem aAd(i:Int)(t:Tok):lL (.inl i) (.int i t)=true:=by simp[lL,Value.isInt]
theorem aAe(x:Str)(t:Tok):lL (.inr x) (.str x t)=true:=by simp[lL,Value.isStrOf]
theorem aDN(a b:Int):decide ((Sum.inl a:Key)=Sum.inl b)=(a==b):=by
 by_cases e:a=b
 ·subst e;simp
 ·have h:¬ (Sum.inl a:Key)=Sum.inl b:=fun q=>e (Sum.inl.inj q)
  rw[decide_eq_false h]
  exact(beq_eq_false_iff_ne.mpr e).symm
theorem aDO(a b:Str):decide ((Sum.inr a:Key)=Sum.inr b)=decide (a=b):=by
 by_cases e:a=b
 ·subst e;simp
 ·have h:¬ (Sum.inr a:Key)=Sum.inr b:=fun q=>e (Sum.inr.inj q)
  rw[decide_eq_false h,decide_eq_false e]
theorem aDP(a:Int)(b:Str):decide ((Sum.inl a:Key)=Sum.inr b)=false:=decide_eq_false (fun q=>nomatch q)
theorem aDQ(a:Str)(b:Int):decide ((Sum.inr a:Key)=Sum.inl b)=false:=decide_eq_false (fun q=>nomatch q)
def bX(prog:Program)(w:World):PySem.KeyKind prog w Key where
 is:=lL
 hash:=keyH w
 inj:=fun v a b ha hb=>by
  rcases cT ha with ⟨i,t,rfl,rfl⟩|⟨x,t,rfl,rfl⟩
  ·rcases cT hb with ⟨j,u,rfl,e⟩|⟨y,u,rfl,e⟩
   ·injection e with e1 _;rw[e1]
   ·exact nomatch e
  ·rcases cT hb with ⟨j,u,rfl,e⟩|⟨y,u,rfl,e⟩
   ·exact nomatch e
   ·injection e with e1 _;rw[e1]
 byValue:=fun k v h=>by
  rcases cT h with ⟨i,t,rfl,rfl⟩|⟨x,t,rfl,rfl⟩ <;> rfl
 pyHash:=fun hv h=>by
  rcases cT hv with ⟨i,t,rfl,rfl⟩|⟨x,t,rfl,rfl⟩
  ·exact wpAny_pyHash_int h
  ·exact wpAny_pyHash_str h
 eqBool:=fun hu hv h=>by
  rcases cT hu with ⟨i,t,rfl,rfl⟩|⟨x,t,rfl,rfl⟩
  ·rcases cT hv with ⟨j,u,rfl,rfl⟩|⟨y,u,rfl,rfl⟩
   ·rw[aDN] at h;exact wpAny_eqBool_int h
   ·rw[aDP] at h;exact SeqAt.EqAt.int_str i t y u _ _ _ _ h
  ·rcases cT hv with ⟨j,u,rfl,rfl⟩|⟨y,u,rfl,rfl⟩
   ·rw[aDQ] at h;exact SeqAt.EqAt.str_int x t j u _ _ _ _ h
   ·rw[aDO] at h;exact wpAny_eqBool_str h
 «strs»:=fun k x t v h=>by
  rcases cT h with ⟨i,u,rfl,e⟩|⟨y,u,rfl,e⟩
  ·exact nomatch e
  ·injection e with e1 _
   subst e1
   cases v <;> rfl
theorem vJ(prog:Program)(w:World)(i:Int)(t:Tok):(bX prog w).is (.inl i) (.int i t)=true:=aAd i t
theorem vK(prog:Program)(w:World)(x:Str)(t:Tok):(bX prog w).is (.inr x) (.str x t)=true:=aAe x t
end L2
namespace L2
open PySem PySem.Spec PyProof.Rows
inductive V where
 |non|bl (b:Bool)|int (i:Int)|str (x:Str)|byt (b:Array UInt8)|flt (b:UInt64)|ref (a:Addr)|ty (n:String)
 deriving DecidableEq
def RelV:V→Value→Prop
 |.non,u=>u=Value.none
 |.bl b,u=>u=Value.bool b
 |.int i,u=>∃t,u=Value.int i t
 |.str x,u=>∃t,u=Value.str x t
 |.byt b,u=>∃t,u=Value.bytes b t
 |.flt b,u=>∃t,u=Value.float b t
 |.ref a,u=>u=Value.ref a
 |.ty n,u=>u=Value.type n
abbrev Vals:List V→List Value→Prop:=Paired RelV
theorem Vals.length{xs:List V}{us:List Value}(r:Vals xs us):xs.length=us.length:=Paired.length r
theorem Vals.get:∀ {xs:List V} {us:List Value} {i:Nat} {x:V},Vals xs us→xs[i]?=some x→∃u,us[i]?=some u∧RelV x u
 |_,_,_,_,.nil,e=>by simp at e
 |_,_,0,_,.cons r _,e=>by simp at e;subst e;exact⟨_,rfl,r⟩
 |_,_,i+1,x,.cons _ t,e=>by
  obtain⟨u,h1,h2⟩:=Vals.get (i:=i) (x:=x) t (by simpa using e)
  exact⟨u,by simpa using h1,h2⟩
theorem Vals.set{x:V}{u:Value}(r:RelV x u):∀ {xs:List V} {us:List Value} (i:Nat),Vals xs us→Vals (xs.set i x) (us.set i u)
 |_,_,_,.nil=>.nil
 |_,_,0,.cons _ t=>.cons r t
 |_,_,i+1,.cons q t=>.cons q (Vals.set r i t)
theorem Vals.append:∀ {xs ys:List V} {us ws:List Value},Vals xs us→Vals ys ws→Vals (xs++ys) (us++ws)
 |_,_,_,_,.nil,s=>s
 |_,_,_,_,.cons r t,s=>.cons r (Vals.append t s)
theorem Vals.take:∀ {xs:List V} {us:List Value} (n:Nat),Vals xs us→Vals (xs.take n) (us.take n)
 |_,_,0,_=>.nil
 |_,_,_+1,.nil=>.nil
 |_,_,n+1,.cons r t=>.cons r (Vals.take n t)
theorem Vals.drop:∀ {xs:List V} {us:List Value} (n:Nat),Vals xs us→Vals (xs.drop n) (us.drop n)
 |_,_,0,r=>r
 |_,_,_+1,.nil=>.nil
 |_,_,n+1,.cons _ t=>Vals.drop n t
def RelO:Option V→Option Value→Prop
 |some v,some u=>RelV v u
 |none,none=>True
 |_,_=>False
def KV{κ:Type}:List (κ×V)→List (κ×Value)→Prop:=Paired fun (p:κ×V) (q:κ×Value)=>p.1=q.1∧RelV p.2 q.2
def kV:Key→V
 |.inl i=>.int i
 |.inr x=>.str x
inductive HO where
 |lst (xs:List V)
 |tup (xs:List V)
 |dK (kvs:List (Key×V))|dT (kvs:List (List Key×V))
 |set (S:Int→Bool) (n:Nat)
 |ins (C dx:Addr) (fs:List (Str×V))
 |own (x:Addr)
 |xd (fs:List (Str×V))
 |met (f x:Addr)
 |rng (lo hi:Int)
 |frz (o:Obj) (u:HO)
 |tbl (ps:Array Value)
 |ext (φ:Heap→Prop)
abbrev Hp:=Addr→Option HO
def upd(H:Hp)(a:Addr)(o:HO):Hp:=fun b=>if b=a then some o else H b
theorem aB{H:Hp}{a:Addr}{o:HO}:upd H a o a=some o:=by unfold upd;rw[if_pos rfl]
theorem aH{H:Hp}{a b:Addr}{o:HO}(h:b≠a):upd H a o b=H b:=by unfold upd;rw[if_neg h]
theorem iE{H:Hp}{a:Addr}{o u:HO}:upd (upd H a o) a u=upd H a u:=by
 funext b;unfold upd;split <;> rfl
theorem dE{H:Hp}{a b:Addr}{o u:HO}(h:H a=some o)(h':H b=some u)(d:o≠u):a≠b:=by
 intro e;subst e;rw[h] at h';exact d (Option.some.inj h')
theorem aG{H:Hp}{a b:Addr}{o:HO}(h:H a=some o)(h':H b=none):a≠b:=by
 intro e;subst e;rw[h] at h';cases h'
section
variable (P:Program) (w:World)
def jF(h:Heap)(a:Addr)(items:Array Value):Prop:=∃o,h.get? a=some o∧o.cls=.type "tuple"∧∃n,o.data=.seq items n∧o.dict=none
theorem jF.tup{h:Heap}{a:Addr}{items:Array Value}(p:jF h a items):IsTup h a items:=let ⟨o,e,c,n,d,_⟩:=p;⟨o,e,c,n,d⟩
theorem jF.new(h:Heap)(items:Array Value):jF (h.push { cls:=.type "tuple",data:=.seq items }) h.objs.size items:=⟨_,Heap.get?_push_size _ rfl,rfl,_,rfl,rfl⟩
def bU(H:Hp)(h:Heap)(a:Addr):HO→Prop
 |.lst xs=>xs.length≤sizeLine∧∃ (its:List Value) (n:Nat),Vals xs its∧h.get? a=some { cls:=.type "list",data:=.seq its.toArray n }
 |.tup xs=>xs.length≤sizeLine∧∃its:List Value,Vals xs its∧jF h a its.toArray
 |.dK kvs=>kvs.length≤sizeLine∧(a==sysModules)=false∧∃vs,KV kvs vs∧h.DictOf (bX P w) a vs
 |.dT kvs=>kvs.length≤sizeLine∧(a==sysModules)=false∧∃xs:List (List Key×Addr×Value),
   Paired (fun (p:List Key×V) (q:List Key×Addr×Value)=>p.1=q.1∧H q.2.1=some (.tup (p.1.map kV))∧RelV p.2 q.2.2) kvs xs∧
   ∃o es ep,h.get? a=some o∧o.ExactDict∧o.data=.dict es ep∧es.toList=xs.map (entryOfKey (tupleKind (bX P w)))∧(xs.map (·.1)).Nodup
 |.set S n=>h.SetOf (intKind P w) a S n
 |.ins C dx fs=>H dx=some (.own a)∧fs.length≤1000∧dx≠a∧h.get? a=some (PySem.W.instObj C dx)∧
   ∃mA,h.Ns1 dx mA∧(∀f,RelO (fs.lookup f) (mA f))∧PySem.Within mA (fs.map (·.1))
 |.own _=>∃o,h.get? a=some o
 |.xd fs=>∃mA,h.Ns1 a mA∧∀f,RelO (fs.lookup f) (mA f)
 |.rng lo hi=>∃t u v,h.get? a=some { cls:=.type "range",data:=.fields #[.int lo t,.int hi u,.int 1 v] }
 |.frz o u=>h.get? a=some o∧bU H h a u
 |.tbl ps=>h.get? a=some { cls:=.none,data:=.fields ps }
 |.met f x=>h.get? a=some (PySem.W.methodObj (.ref f) (.ref x))
 |.ext φ=>φ h∧(∃o,h.get? a=some o)∧∀h1 h2:Heap,φ h1→(∀o,h1.get? a=some o→h2.get? a=some o)→φ h2
def HOk(H:Hp)(h:Heap):Prop:=∀a o,H a=some o→bU P w H h a o
end
section
variable {P:Program} {w:World} {H H':Hp} {h h':Heap} {a:Addr} {o:HO}
theorem bU.lt(x:bU P w H h a o):a<h.objs.size:=by
 cases o with
 |lst xs=>obtain⟨_,_,_,_,e⟩:=x;exact Heap.lt_size e
 |tup xs=>obtain⟨_,_,_,p⟩:=x;exact p.tup.lt
 |dK kvs=>obtain⟨_,_,_,_,o,_,_,e,_⟩:=x;exact Heap.lt_size e
 |dT kvs=>obtain⟨_,_,_,_,o,_,_,e,_⟩:=x;exact Heap.lt_size e
 |set S n=>obtain⟨o,_,_,_,e,_⟩:=x;exact Heap.lt_size e
 |ins C dx fs=>obtain⟨_,_,_,e,_⟩:=x;exact Heap.lt_size e
 |own y=>obtain⟨_,e⟩:=x;exact Heap.lt_size e
 |xd fs=>obtain⟨_,⟨_,_,_,e,_⟩,_⟩:=x;exact Heap.lt_size e
 |rng lo hi=>obtain⟨_,_,_,e⟩:=x;exact Heap.lt_size e
 |frz ob u=>obtain⟨e,_⟩:=x;exact Heap.lt_size e
 |tbl ps=>exact Heap.lt_size (show h.get? a=some _ from x)
 |met f y=>exact Heap.lt_size (show h.get? a=some _ from x)
 |ext φ=>obtain⟨_,⟨_,e⟩,_⟩:=x;exact Heap.lt_size e
theorem Paired.mapP{α β:Type}{F G:α→β→Prop}:∀ {l₁:List α} {l₂:List β},Paired F l₁ l₂→(∀a b,F a b→G a b)→Paired G l₁ l₂
 |_,_,.nil,_=>.nil
 |_,_,.cons r t,f=>.cons (f _ _ r) (Paired.mapP t f)
theorem bU.stay(x:bU P w H h a o)(k:∀b u,(b=a∨H b=some (.own a))→h.get? b=some u→h'.get? b=some u)(ho:∀b,H b=some (.own a)→H' b=some (.own a))(ht:∀b xs,H b=some (.tup xs)→H' b=some (.tup xs)):bU P w H' h' a o:=by
 induction o with
 |lst xs=>obtain⟨z,its,n,r,e⟩:=x;exact⟨z,its,n,r,k _ _ (.inl rfl) e⟩
 |tup xs=>obtain⟨z,its,r,ob,e,c⟩:=x;exact⟨z,its,r,ob,k _ _ (.inl rfl) e,c⟩
 |dK kvs=>obtain⟨z,y,vs,r,ob,es,ep,e,c⟩:=x;exact⟨z,y,vs,r,ob,es,ep,k _ _ (.inl rfl) e,c⟩
 |dT kvs=>
  obtain⟨z,y,xs,r,ob,es,ep,e,c⟩:=x
  exact⟨z,y,xs,Paired.mapP r fun p q z=>⟨z.1,ht _ _ z.2.1,z.2.2⟩,ob,es,ep,k _ _ (.inl rfl) e,c⟩
 |set S n=>obtain⟨ob,es,ep,t,e,c⟩:=x;exact⟨ob,es,ep,t,k _ _ (.inl rfl) e,c⟩
 |ins C dx fs=>
  obtain⟨d,z,ne,e,mA,⟨od,es,ep,e2,c⟩,r⟩:=x
  exact⟨ho _ d,z,ne,k _ _ (.inl rfl) e,mA,⟨od,es,ep,k _ _ (.inr d) e2,c⟩,r⟩
 |own y=>obtain⟨ob,e⟩:=x;exact⟨ob,k _ _ (.inl rfl) e⟩
 |xd fs=>obtain⟨mA,⟨od,es,ep,e,c⟩,r⟩:=x;exact⟨mA,⟨od,es,ep,k _ _ (.inl rfl) e,c⟩,r⟩
 |rng lo hi=>obtain⟨t,u,v,e⟩:=x;exact⟨t,u,v,k _ _ (.inl rfl) e⟩
 |frz ob u ih=>obtain⟨e,q⟩:=x;exact⟨k _ _ (.inl rfl) e,ih q⟩
 |tbl ps=>
  have e:h.get? a=some { cls:=.none,data:=.fields ps }:=x
  show h'.get? a=some { cls:=.none,data:=.fields ps }
  exact k a _ (.inl rfl) e
 |met f y=>
  have e:h.get? a=some (PySem.W.methodObj (.ref f) (.ref y)):=x
  show h'.get? a=some (PySem.W.methodObj (.ref f) (.ref y))
  exact k a _ (.inl rfl) e
 |ext φ=>obtain⟨p,⟨o,e⟩,st⟩:=x;exact⟨st _ _ p fun o q=>k _ _ (.inl rfl) q,⟨o,k _ _ (.inl rfl) e⟩,st⟩
theorem HOk.lt(x:HOk P w H h)(e:H a=some o):a<h.objs.size:=(x a o e).lt
theorem HOk.fresh(x:HOk P w H h)(e:h.objs.size≤a):H a=none:=by
 cases q:H a with
 |none=>rfl
 |some u=>exact absurd (Nat.lt_of_lt_of_le (x.lt q) e) (Nat.lt_irrefl _)
theorem HOk.kept(x:HOk P w H h)(k:∀b u,h.get? b=some u→h'.get? b=some u):HOk P w H h':=fun a o e=>
 (x a o e).stay (fun b u _ q=>k b u q) (fun _ q=>q) fun _ _ q=>q
theorem HOk.laid(x:HOk P w H h)(k:∀b u,h.get? b=some u→h'.get? b=some u)(hp:h.objs.size≤a)(new:bU P w (upd H a o) h' a o):HOk P w (upd H a o) h':=fun b u e=>by
 have hn:=x.fresh hp
 by_cases hb:b=a
 ·subst hb;rw[aB] at e;cases e;exact new
 ·rw[aH hb] at e
  exact(x b u e).stay (fun c v _ q=>k c v q) (fun c q=>by rw[aH (aG q hn)];exact q) fun c xs q=>by rw[aH (aG q hn)];exact q
end
def Rd(H:Hp)(a:Addr)(u:HO):Prop:=H a=some u∨∃o,H a=some (.frz o u)
theorem Rd.ok{P:Program}{w:World}{H:Hp}{h:Heap}{a:Addr}{u:HO}(r:Rd H a u)(x:HOk P w H h):bU P w H h a u:=by
 rcases r with r|⟨o,r⟩
 ·exact x a u r
 ·obtain⟨_,q⟩:=x a _ r
  exact q
def Mut:Option HO→Prop
 |some (.lst _)=>True
 |some (.dK _)=>True
 |some (.dT _)=>True
 |some (.set _ _)=>True
 |some (.ins _ _ _)=>True
 |some (.ext _)=>True
 |_=>False
section
variable {P:Program} {w:World} {H:Hp} {h h':Heap} {x e:Addr} {o':HO}
theorem HOk.write(ok:HOk P w H h)(mu:Mut (H x))(he:e=x∨H e=some (.own x))(k:∀b u,b≠e→h.get? b=some u→h'.get? b=some u)(heo:∃u,h'.get? e=some u)(new:bU P w (upd H x o') h' x o'):HOk P w (upd H x o') h':=fun b u q=>by
 have nown:∀c y,H c=some (.own y)→c≠x:=fun c y r z=>by subst z;rw[r] at mu;exact mu
 have ntup:∀c xs,H c=some (.tup xs)→c≠x:=fun c xs r z=>by subst z;rw[r] at mu;exact mu
 by_cases hb:b=x
 ·subst hb;rw[aB] at q;cases q;exact new
 ·rw[aH hb] at q
  by_cases hbe:b=e
  ·have q':H b=some (.own x):=by
    rcases he with z|z
    ·exact absurd (hbe.trans z) hb
    ·rw[hbe];exact z
   rw[q] at q';cases q'
   obtain⟨v,hv⟩:=heo
   exact⟨v,by rw[hbe];exact hv⟩
  ·refine(ok b u q).stay (fun c v hc r=>k c v ?_ r) (fun c r=>by rw[aH (nown c b r)];exact r) fun c xs r=>by rw[aH (ntup c xs r)];exact r
   rcases hc with rfl|hc
   ·exact hbe
   ·rintro rfl
    rcases he with z|z
    ·exact nown c b hc z
    ·rw[hc] at z;cases z;exact hb rfl
end
structure Un(fs ex:List Addr)(H H':Hp)(h h':Heap):Prop where
 keep:∀b o,h.get? b=some o→H b=none→b∉fs→b∉ex→h'.get? b=some o
 slot:∀b o,h.get? b=some o→H b=none→b∈fs→b∉ex→∃sl,h'.get? b=some { o with slots:=sl }
 free:∀b o,h.get? b=some o→H b=none→b∉ex→H' b=none
 there:∀b o,h.get? b=some o→b∉ex→∃o',h'.get? b=some o'
 tups:∀b xs,H b=some (.tup xs)→H' b=some (.tup xs)
 frzs:∀b o u,H b=some (.frz o u)→H' b=some (.frz o u)
 tbls:∀b ps,H b=some (.tbl ps)→∃more,H' b=some (.tbl (ps++more))
section
variable {fs fs' ex ex':List Addr} {H H1 H2:Hp} {h h1 h2 h':Heap} {a x e:Addr} {o:HO}
theorem Un.any(u:Un fs ex H H1 h h1){b:Addr}{ob:Obj}(q:h.get? b=some ob)(n:H b=none)(hx:b∉ex):∃sl,h1.get? b=some { ob with slots:=sl }:=by
 by_cases hb:b∈fs
 ·exact u.slot b ob q n hb hx
 ·exact⟨ob.slots,u.keep b ob q n hb hx⟩
theorem Un.kept(k:∀b u,h.get? b=some u→h'.get? b=some u):Un fs ex H H h h':=
 ⟨fun b ob q _ _ _=>k b ob q,fun b ob q _ _ _=>⟨ob.slots,k b ob q⟩,fun _ _ _ n _=>n,fun b ob q _=>⟨ob,k b ob q⟩,fun _ _ q=>q,fun _ _ _ q=>q,fun _ ps q=>⟨#[],by rw[q];simp⟩⟩
theorem Un.refl:Un fs ex H H h h:=Un.kept fun _ _ q=>q
theorem Un.laid(k:∀b u,h.get? b=some u→h'.get? b=some u)(hp:h.objs.size≤a)(hn:H a=none):Un fs ex H (upd H a o) h h' where
 keep:=fun b u q _ _ _=>k b u q
 slot:=fun b u q _ _ _=>⟨u.slots,k b u q⟩
 free:=fun b u q n _=>by rw[aH (Nat.ne_of_lt (Nat.lt_of_lt_of_le (Heap.lt_size q) hp))];exact n
 there:=fun b u q _=>⟨u,k b u q⟩
 tups:=fun b xs q=>by rw[aH (aG q hn)];exact q
 frzs:=fun b u xs q=>by rw[aH (aG q hn)];exact q
 tbls:=fun b ps q=>⟨#[],by rw[aH (aG q hn),q];simp⟩
theorem Un.write(mu:Mut (H x))(he:e=x∨H e=some (.own x))(k:∀b u,b≠e→h.get? b=some u→h'.get? b=some u)(heo:∃u,h'.get? e=some u):Un fs ex H (upd H x o) h h':=by
 have hx:∀b,H b=none→b≠x:=fun b n z=>by subst z;rw[n] at mu;exact mu
 have hb:∀b,H b=none→b≠e:=fun b n z=>by
  subst z
  rcases he with r|r
  ·exact hx b n r
  ·rw[n] at r;cases r
 have hm:∀b u,H b=some u→¬ Mut (some u)→b≠x:=fun b u q nm z=>by subst z;rw[q] at mu;exact nm mu
 refine⟨fun b u q n _ _=>k b u (hb b n) q,fun b u q n _ _=>⟨u.slots,k b u (hb b n) q⟩,fun b u q n _=>by rw[aH (hx b n)];exact n,fun b u q _=>?_,
  fun b xs q=>by rw[aH (hm b _ q fun z=>z)];exact q,fun b u xs q=>by rw[aH (hm b _ q fun z=>z)];exact q,fun b ps q=>⟨#[],by rw[aH (hm b _ q fun z=>z),q];simp⟩⟩
 by_cases hbe:b=e
 ·subst hbe;exact heo
 ·exact⟨u,k b u hbe q⟩
end
def trk(h:Heap)(H:Hp):List Addr:=(List.range h.objs.size).filter fun a=>(H a).isSome
def hidT(h:Heap)(H:Hp):Heap:=PySem.W.hideAll h (trk h H)
theorem aAf(h:Heap)(H:Hp):(hidT h H).objs.size=h.objs.size:=PySem.W.hideAll_size _ _
theorem aBD{h:Heap}{H:Hp}{b:Addr}{o:Obj}(e:h.get? b=some o)(n:H b=none):(hidT h H).get? b=some o:=
 PySem.W.hideAll_get _ e fun hm=>by
  have q:(H b).isSome=true:=(List.mem_filter.mp hm).2
  rw[n] at q;simp at q
theorem aCF{h:Heap}{H:Hp}{b:Addr}{o:Obj}(e:(hidT h H).get? b=some o):h.get? b=some o∧H b=none:=by
 have e':h.get? b=some o:=PySem.W.of_hideAll (trk h H) e
 refine⟨e',?_⟩
 cases q:H b with
 |none=>rfl
 |some x=>
  have hm:b∈trk h H:=List.mem_filter.mpr ⟨List.mem_range.mpr (Heap.lt_size e'),by simp[q]⟩
  have z:(hidT h H).get? b=none:=PySem.W.hideAll_none (trk h H) hm
  rw[z] at e;cases e
def fV(g h:Heap)(L:Addr):List (Addr×Obj):=(List.range h.objs.size).filterMap fun a=>if a=L∨(g.get? a).isSome=true then none else (h.get? a).map fun o=>(a,o)
theorem jA{g h:Heap}{L a:Addr}{o:Obj}(h1:a≠L)(h2:g.get? a=none)(h3:h.get? a=some o):(a,o)∈fV g h L:=
 List.mem_filterMap.mpr ⟨a,List.mem_range.mpr (Heap.lt_size h3),by simp[h1,h2,h3]⟩
theorem oX{g h:Heap}{L:Addr}{p:Addr×Obj}(hp:p∈fV g h L):p.1≠L∧g.get? p.1=none∧h.get? p.1=some p.2:=by
 obtain⟨b,_,e⟩:=List.mem_filterMap.mp hp
 split at e
 ·cases e
 ·rename_i hn
  cases q:h.get? b with
  |none=>rw[q] at e;simp at e
  |some u=>
   rw[q] at e
   simp only[Option.map_some,Option.some.injEq] at e
   subst e
   refine⟨fun z=>hn (.inl z),?_,q⟩
   show g.get? b=none
   cases r:g.get? b with
   |none=>rfl
   |some v=>exact(hn (.inr (by simp[r]))).elim
theorem aBE{g h:Heap}{L:Addr}:News g L h (fV g h L):=fun p hp=>let ⟨a,b,c⟩:=oX hp;⟨c,a,b⟩
end L2
namespace L2
open PySem PySem.Spec PyProof.Rows
structure Mod(K:PySem.W.Frag)(mg:Str→Option Value)(base:Heap):Prop where
 kin:K.In base
 glob:base.Ns mainGlobals mg
 blt:∃mb,base.Ns builtinsNs mb∧∀x:Str,x≠"__name__"→mb x=bootBuiltins x
 nolimit:base.NoLimit
structure Cx where
 prog:Program
 w:World
 K:PySem.W.Frag
 mg:Str→Option Value
 base:Heap
 A:Around
 N:List Str
 s₀:Shared
 H₀:Hp
 env:Env
 outer:List Env
 stack:List Env
 ex:List Addr
 fn:Str→Bool
 calm:Bool
 pn:List (Addr×Obj)
 xe:Value→Shared→Prop
def frs(l:List Env):List Addr:=l.filterMap (·.frame)
abbrev Cx.fs(X:Cx):List Addr:=frs X.outer
def Vis(sc:Scope)(x:Str):Prop:=sc.names.lookup x=some .local∨sc.names.lookup x=some .cell∨sc.names.lookup x=some .free
def Loc(sc:Scope)(x:Str):Prop:=sc.names.lookup x=some .local∨sc.names.lookup x=some .cell
def Look(env:Env)(h:Heap)(m:Str→Option Value)(x:Str)(u:Value):Prop:=
 (env.kindOf x=some .local∧m x=some u)∨((env.kindOf x=some .cell∨env.kindOf x=some .free)∧∃c,env.cells.lookup x=some c∧h.IsCell c (some u))
structure Cx.Ok(X:Cx):Prop where
 mod:Mod X.K X.mg X.base
 kind:X.env.scope.kind=.function
 glob:X.env.globals=mainGlobals
 blt:X.env.builtins=builtinsNs
 above:X.s₀.heap.objs.size≤X.env.locals
 inj:∀x y c,X.env.cells.lookup x=some c→X.env.cells.lookup y=some c→x=y
 has:∀x,(X.env.kindOf x=some .cell∨X.env.kindOf x=some .free)→∃c,X.env.cells.lookup x=some c
 cab:∀x c,X.fn x=true→X.env.cells.lookup x=some c→X.s₀.heap.objs.size≤c
 hd:X.calm=true→X.A.handled=none
 frames:X.A.frames=some X.stack
 stk:X.stack=X.outer∨(X.stack=X.env::X.outer∧X.env.frame=some X.env.locals)
 exf:∀b∈X.ex,b≠X.env.locals∧∀x c,X.env.cells.lookup x=some c→c≠b
 bs:∀b o,X.base.get? b=some o→X.s₀.heap.get? b=some o∧X.H₀ b=none
 bsz:X.base.objs.size≤X.s₀.heap.objs.size
 noex:∀b o,X.base.get? b=some o→b∉X.ex
 exfs:∀b∈X.ex,b∉X.fs
 funs:X.s₀.heap.FunFrames X.base X.outer
 frf:∀b∈X.fs,X.H₀ b=none
structure Inv(X:Cx)(pins:List (Addr×Obj))(σ:List (Option V))(H:Hp)(s:Shared):Prop where
 ok:X.Ok
 os:s.os=X.s₀.os
 bare:AllBare s.gens
 base:Un X.fs X.ex X.H₀ H X.s₀.heap s.heap
 loc:∃m,s.heap.Ns X.env.locals m∧∀ (i:Nat) (x:Str) (v:V),X.N[i]?=some x→σ[i]?=some (some v)→Vis X.env.scope x→∃u,RelV v u∧Look X.env s.heap m x u
 cell:∀x c,X.env.cells.lookup x=some c→∃v,s.heap.IsCell c v
 free:H X.env.locals=none
 freeC:∀x c,X.env.cells.lookup x=some c→H c=none
 pin:∀p∈X.pn++pins,s.heap.get? p.1=some p.2∧H p.1=none∧p.1≠X.env.locals∧p.1∉X.fs∧∀v,p.2.data≠.cell v
 hok:HOk X.prog X.w H s.heap
 len:σ.length=X.N.length
section
variable {X:Cx} {pins:List (Addr×Obj)} {σ:List (Option V)} {H H':Hp} {s:Shared} {h':Heap}
theorem Cx.Ok.nofr(ok:X.Ok){b:Addr}{o:Obj}(e:X.base.get? b=some o):b∉X.fs:=fun hb=>by
 have:=(ok.funs.mem hb).1
 rw[e] at this;cases this
theorem Inv.bs(I:Inv X pins σ H s):∀b o,X.base.get? b=some o→s.heap.get? b=some o∧H b=none:=fun b o e=>
 ⟨I.base.keep b o (I.ok.bs b o e).1 (I.ok.bs b o e).2 (I.ok.nofr e) (I.ok.noex b o e),I.base.free b o (I.ok.bs b o e).1 (I.ok.bs b o e).2 (I.ok.noex b o e)⟩
theorem Inv.bk(I:Inv X pins σ H s):∀b o,X.base.get? b=some o→s.heap.get? b=some o:=fun b o e=>(I.bs b o e).1
theorem Inv.mod(I:Inv X pins σ H s):Mod X.K X.mg X.base:=I.ok.mod
theorem Inv.kIn(I:Inv X pins σ H s):X.K.In s.heap:=I.ok.mod.kin.keeps I.bk
theorem Inv.fr(I:Inv X pins σ H s):∃m,Fr X.base X.env.locals s.heap m:=
 let ⟨m,hn,_⟩:=I.loc
 ⟨m,hn,I.bk,Nat.le_trans I.ok.bsz I.ok.above⟩
theorem Inv.lt(I:Inv X pins σ H s):X.env.locals<s.heap.objs.size:=let ⟨_,hn,_⟩:=I.loc;hn.lt
theorem Inv.sz(I:Inv X pins σ H s):X.s₀.heap.objs.size≤s.heap.objs.size:=Nat.le_trans I.ok.above (Nat.le_of_lt I.lt)
theorem Inv.nofs(I:Inv X pins σ H s){a:Addr}(h:s.heap.objs.size≤a):a∉X.fs:=fun hb=>by
 obtain⟨_,o,ho,_⟩:=I.ok.funs.mem hb
 exact absurd (Nat.lt_of_lt_of_le (Heap.lt_size ho) (Nat.le_trans I.sz h)) (Nat.lt_irrefl _)
theorem Inv.cne(I:Inv X pins σ H s):∀x c,X.env.cells.lookup x=some c→c≠X.env.locals:=fun x c e z=>by
 obtain⟨v,o,ho,hd⟩:=I.cell x c e
 obtain⟨m,⟨o',es,ep,ho',hd',_⟩,_⟩:=I.loc
 rw[z,ho'] at ho;cases ho;rw[hd'] at hd;cases hd
theorem Inv.funs(I:Inv X pins σ H s):s.heap.FunFrames X.base X.outer:=by
 have all:∀ (l:List Env),(∀b∈frs l,b∈X.fs)→X.s₀.heap.FunFrames X.base l→s.heap.FunFrames X.base l:=by
  intro l
  induction l with
  |nil=>intro _ _;trivial
  |cons env r ih=>
   intro hs hl
   obtain⟨hk,⟨L,o,hf,hn,ho,hd⟩,hr⟩:=hl
   have hL:L∈X.fs:=hs L (by unfold frs;rw[List.filterMap_cons,hf];exact List.mem_cons_self)
   obtain⟨sl,e⟩:=I.base.slot L o ho (I.ok.frf L hL) hL fun z=>I.ok.exfs L z hL
   exact⟨hk,⟨L,_,hf,hn,e,hd⟩,ih (fun b hb=>hs b (by unfold frs;rw[List.filterMap_cons,hf];exact List.mem_cons_of_mem _ hb)) hr⟩
 exact all X.outer (fun _ hb=>hb) I.ok.funs
theorem Inv.stack(I:Inv X pins σ H s):s.heap.FunFrames X.base X.stack:=by
 rcases I.ok.stk with e|⟨e,hf⟩
 ·rw[e];exact I.funs
 ·rw[e]
  obtain⟨m,hn,_⟩:=I.loc
  refine .cons (by rw[I.ok.kind];decide) hf hn ?_ I.funs
  exact Heap.get?_none_of_le (Nat.le_trans I.ok.bsz I.ok.above)
theorem Inv.stkSub(I:Inv X pins σ H s):∀b∈frs X.stack,b∈X.env.locals::X.fs:=fun b hb=>by
 rcases I.ok.stk with e|⟨e,hf⟩
 ·rw[e] at hb;exact List.mem_cons_of_mem _ hb
 ·rw[e] at hb
  unfold frs at hb
  rw[List.filterMap_cons,hf] at hb
  exact hb
theorem Inv.stkFree(I:Inv X pins σ H s):∀b∈frs X.stack,H b=none:=fun b hb=>by
 rcases List.mem_cons.mp (I.stkSub b hb) with e|hb
 ·rw[e];exact I.free
 ·obtain⟨_,o,ho,_⟩:=I.ok.funs.mem hb
  exact I.base.free b o ho (I.ok.frf b hb) fun z=>I.ok.exfs b z hb
theorem Inv.step{g':Array GenState}{t':Nat}{d':Drawn}{ch:List Addr}(I:Inv X pins σ H s)(hch:∀b∈ch,(b∈X.ex∨X.s₀.heap.objs.size≤b)∧b≠X.env.locals∧(∀x c,X.env.cells.lookup x=some c→c≠b)∧∀p∈X.pn++pins,p.1≠b)(keep:∀b o,b≠X.env.locals→b∉X.fs→b∉ch→s.heap.get? b=some o→H b=none→h'.get? b=some o)(slot:∀b o,b≠X.env.locals→b∈X.fs→b∉ch→s.heap.get? b=some o→H b=none→∃sl,h'.get? b=some { o with slots:=sl })(free:∀b o,b∉ch→s.heap.get? b=some o→H b=none→H' b=none)(there:∀b o,b∉ch→s.heap.get? b=some o→∃o',h'.get? b=some o')(tups:∀b xs,H b=some (.tup xs)→H' b=some (.tup xs))(frzs:∀b o u,H b=some (.frz o u)→H' b=some (.frz o u))(tbls:∀b ps,H b=some (.tbl ps)→∃more,H' b=some (.tbl (ps++more)))(ns:∀m,s.heap.Ns X.env.locals m→h'.Ns X.env.locals m)(hok:HOk X.prog X.w H' h')(hg:AllBare g'):
  Inv X pins σ H' { s with heap:=h',gens:=g',drawn:=d',toks:=t' }:=by
 have neL:∀b o,X.s₀.heap.get? b=some o→b≠X.env.locals:=fun b o e=>Nat.ne_of_lt (Nat.lt_of_lt_of_le (Heap.lt_size e) I.ok.above)
 have neC:∀b o,X.s₀.heap.get? b=some o→b∉X.ex→b∉ch:=fun b o e hx hb=>by
  rcases(hch b hb).1 with z|z
  ·exact hx z
  ·exact absurd (Nat.lt_of_lt_of_le (Heap.lt_size e) z) (Nat.lt_irrefl _)
 have cellK:∀x c,X.env.cells.lookup x=some c→∀v,s.heap.IsCell c v→h'.IsCell c v:=fun x c e v ⟨o,ho,hd⟩=>by
  have nch:c∉ch:=fun z=>(hch c z).2.2.1 x c e rfl
  by_cases hc:c∈X.fs
  ·obtain⟨sl,q⟩:=slot c o (I.cne x c e) hc nch ho (I.freeC x c e)
   exact⟨_,q,hd⟩
  ·exact⟨o,keep c o (I.cne x c e) hc nch ho (I.freeC x c e),hd⟩
 refine⟨I.ok,I.os,hg,⟨fun b o e n hb hx=>?_,fun b o e n hb hx=>?_,fun b o e n hx=>?_,fun b o e hx=>?_,fun b xs e=>tups b xs (I.base.tups b xs e),fun b o xs e=>frzs b o xs (I.base.frzs b o xs e),fun b ps e=>?_⟩,?_,fun x c e=>?_,?_,fun x c e=>?_,fun p hp=>?_,hok,I.len⟩
 ·exact keep b o (neL b o e) hb (neC b o e hx) (I.base.keep b o e n hb hx) (I.base.free b o e n hx)
 ·obtain⟨sl,e1⟩:=I.base.slot b o e n hb hx
  obtain⟨sl',e2⟩:=slot b _ (neL b o e) hb (neC b o e hx) e1 (I.base.free b o e n hx)
  exact⟨sl',e2⟩
 ·obtain⟨o',e1⟩:=I.base.there b o e hx
  exact free b o' (neC b o e hx) e1 (I.base.free b o e n hx)
 ·obtain⟨o',e1⟩:=I.base.there b o e hx
  exact there b o' (neC b o e hx) e1
 ·obtain⟨m1,e1⟩:=I.base.tbls b ps e
  obtain⟨m2,e2⟩:=tbls b _ e1
  exact⟨m1++m2,by rw[e2,Array.append_assoc]⟩
 ·obtain⟨m,hn,hl⟩:=I.loc
  refine⟨m,ns m hn,fun i x v e1 e2 e3=>?_⟩
  obtain⟨u,r,l⟩:=hl i x v e1 e2 e3
  refine⟨u,r,?_⟩
  rcases l with l|⟨k,c,e,z⟩
  ·exact .inl l
  ·exact .inr ⟨k,c,e,cellK x c e _ z⟩
 ·obtain⟨v,z⟩:=I.cell x c e
  exact⟨v,cellK x c e v z⟩
 ·obtain⟨m,⟨o,_,_,ho,_⟩,_⟩:=I.loc
  exact free _ o (fun z=>(hch _ z).2.1 rfl) ho I.free
 ·obtain⟨v,o,ho,hd⟩:=I.cell x c e
  exact free c o (fun z=>(hch c z).2.2.1 x c e rfl) ho (I.freeC x c e)
 ·obtain⟨e,n,ne,nf,d⟩:=I.pin p hp
  have nch:p.1∉ch:=fun z=>(hch p.1 z).2.2.2 p hp rfl
  exact⟨keep p.1 p.2 ne nf nch e n,free p.1 p.2 nch e n,ne,nf,d⟩
theorem Inv.un{t':Nat}(I:Inv X pins σ H s)(u:Un X.fs [] H H' s.heap h')(hok:HOk X.prog X.w H' h'):Inv X pins σ H' { s with heap:=h',toks:=t' }:=by
 obtain⟨m,⟨o,es,ep,ho,r⟩,_⟩:=id I.loc
 obtain⟨sl,hL⟩:=u.any ho I.free (by simp)
 exact I.step (g':=s.gens) (d':=s.drawn) (ch:=[]) (fun _ z=>nomatch z) (fun b o _ hb _ e n=>u.keep b o e n hb (by simp)) (fun b o _ hb _ e n=>u.slot b o e n hb (by simp)) (fun b o _ e n=>u.free b o e n (by simp)) (fun b o _ e=>u.there b o e (by simp)) u.tups u.frzs u.tbls (fun m' hm=>by
  obtain⟨o',es',ep',ho',r'⟩:=hm
  rw[ho] at ho';cases ho'
  exact⟨_,es',ep',hL,r'⟩) hok I.bare
theorem Inv.call{g':Array GenState}{t':Nat}{d':Drawn}{ch:List Addr}(I:Inv X pins σ H s)(u:Un (frs X.stack) ch H H' s.heap h')(hok:HOk X.prog X.w H' h')(hg:AllBare g')(hch:∀b∈ch,(b∈X.ex∨X.s₀.heap.objs.size≤b)∧b≠X.env.locals∧(∀x c,X.env.cells.lookup x=some c→c≠b)∧∀p∈X.pn++pins,p.1≠b):
  Inv X pins σ H' { s with heap:=h',gens:=g',drawn:=d',toks:=t' }:=by
 obtain⟨m,⟨o,es,ep,ho,r⟩,_⟩:=id I.loc
 obtain⟨sl,hL⟩:=u.any ho I.free fun z=>(hch _ z).2.1 rfl
 exact I.step (ch:=ch) hch (fun b o hL hb hc e n=>u.keep b o e n (fun z=>(List.mem_cons.mp (I.stkSub b z)).elim hL hb) hc) (fun b o _ _ hc e n=>u.any e n hc) (fun b o hc e n=>u.free b o e n hc) (fun b o hc e=>u.there b o e hc) u.tups u.frzs u.tbls (fun m' hm=>by
  obtain⟨o',es',ep',ho',r'⟩:=hm
  rw[ho] at ho';cases ho'
  exact⟨_,es',ep',hL,r'⟩) hok hg
theorem Inv.turned{t':Nat}{it:Addr}(I:Inv X pins σ H s)(k:∀b o,b≠it→s.heap.get? b=some o→h'.get? b=some o)(hn:H it=none)(hL:it≠X.env.locals)(h1:it∈X.ex∨X.s₀.heap.objs.size≤it)(h2:∀x c,X.env.cells.lookup x=some c→c≠it)(h3:∀p∈X.pn++pins,p.1≠it):Inv X pins σ H { s with heap:=h',toks:=t' }:=by
 have nit:∀b u,H b=some u→b≠it:=fun b u e z=>by rw[z,hn] at e;cases e
 refine I.step (g':=s.gens) (d':=s.drawn) (ch:=[it]) (fun b hb=>?_) (fun b o _ _ hc e _=>k b o (fun z=>hc (by simp[z])) e) (fun b o _ _ hc e _=>⟨o.slots,k b o (fun z=>hc (by simp[z])) e⟩) (fun _ _ _ _ n=>n)
  (fun b o hc e=>⟨o,k b o (fun z=>hc (by simp[z])) e⟩) (fun _ _ e=>e) (fun _ _ _ e=>e) (fun b ps e=>⟨#[],by rw[e];simp⟩) (fun m hm=>?_) (fun b u e=>?_) I.bare
 ·have e:b=it:=by simpa using hb
  subst e
  exact⟨h1,hL,h2,h3⟩
 ·obtain⟨o,es,ep,ho,r⟩:=hm
  exact⟨o,es,ep,k _ o (Ne.symm hL) ho,r⟩
 ·refine(I.hok b u e).stay (fun c v hc q=>k c v ?_ q) (fun _ q=>q) fun _ _ q=>q
  rcases hc with z|z
  ·rw[z];exact nit b u e
  ·exact nit c _ z
theorem Inv.tok(I:Inv X pins σ H s)(t:Nat):Inv X pins σ H { s with toks:=t }:=I.un (h':=s.heap) (t':=t) Un.refl I.hok
theorem Inv.kept{t':Nat}(I:Inv X pins σ H s)(k:∀b u,s.heap.get? b=some u→h'.get? b=some u):Inv X pins σ H { s with heap:=h',toks:=t' }:=I.un (Un.kept k) (I.hok.kept k)
theorem Inv.laid{a:Addr}{o:HO}{t':Nat}(I:Inv X pins σ H s)(k:∀b u,s.heap.get? b=some u→h'.get? b=some u)(hp:s.heap.objs.size≤a)(new:bU X.prog X.w (upd H a o) h' a o):
  Inv X pins σ (upd H a o) { s with heap:=h',toks:=t' }:=I.un (Un.laid k hp (I.hok.fresh hp)) (I.hok.laid k hp new)
theorem Inv.write{x e:Addr}{o:HO}{t':Nat}(I:Inv X pins σ H s)(mu:Mut (H x))(he:e=x∨H e=some (.own x))(k:∀b u,b≠e→s.heap.get? b=some u→h'.get? b=some u)(heo:∃u,h'.get? e=some u)(new:bU X.prog X.w (upd H x o) h' x o):Inv X pins σ (upd H x o) { s with heap:=h',toks:=t' }:=I.un (Un.write mu he k heo) (I.hok.write mu he k heo new)
theorem Inv.pins_of{pins':List (Addr×Obj)}(I:Inv X pins σ H s)(h:∀p∈pins',s.heap.get? p.1=some p.2∧H p.1=none∧p.1≠X.env.locals∧p.1∉X.fs∧∀v,p.2.data≠.cell v):Inv X pins' σ H s:=
 ⟨I.ok,I.os,I.bare,I.base,I.loc,I.cell,I.free,I.freeC,fun p hp=>(List.mem_append.mp hp).elim (fun z=>I.pin p (List.mem_append_left _ z)) (h p),I.hok,I.len⟩
theorem rR{N:List Str}(hN:N.Nodup){i j:Nat}{x:Str}(a:N[i]?=some x)(b:N[j]?=some x):i=j:=by
 obtain⟨h1,e1⟩:=List.getElem?_eq_some_iff.mp a
 obtain⟨h2,e2⟩:=List.getElem?_eq_some_iff.mp b
 exact(List.getElem_inj hN).mp (e1.trans e2.symm)
theorem pY{M:Model}{A:Around}{E:Value→Shared→Prop}{i:Nat}{x:Str}{v:V}{u:Value}{Q:Unit→Shared→Prop}(I:Inv X pins σ H s)(hN:X.N.Nodup)(hi:X.N[i]?=some x)(hx:Loc X.env.scope x)(r:RelV v u)(h:∀s',Inv X pins (σ.set i (some v)) H s'→(∃a,Heap.SameBut a s.heap s'.heap∧(a=X.env.locals∨X.env.cells.lookup x=some a))→Q () s')(hf:X.fn x=true∨X.env.scope.names.lookup x=some .local:=by first|exact .inl rfl|exact .inr rfl|assumption):wpAny M A (storeName X.env x u) Q E s:=by
 obtain⟨m,hn,hl⟩:=id I.loc
 have hcls:(X.env.scope.kind==.class||(X.env.scope.kind==.module&&X.env.locals != X.env.globals))=false:=by rw[I.ok.kind];rfl
 have hiσ:i<σ.length:=by rw[I.len];exact(List.getElem?_eq_some_iff.mp hi).1
 have cne:=I.cne
 have tracked:∀ {a:Addr} {h':Heap},(∃o,s.heap.get? a=some o∧H a=none)→Heap.SameBut a s.heap h'→HOk X.prog X.w H h':=fun {a h'} ha hs b ob e=>by
  obtain⟨_,_,hfree⟩:=ha
  refine(I.hok b ob e).stay (fun c w' hc q=>(hs.2 c ?_).trans q) (fun _ q=>q) fun _ _ q=>q
  rintro rfl
  rcases hc with rfl|hc
  ·rw[hfree] at e;cases e
  ·rw[hfree] at hc;cases hc
 rcases hx with hk|hk
 ·refine wpAny_storeName_local hk hn (fun h' hn' hs=>?_) hcls
  obtain⟨oL,_,_,hoL,_⟩:=id hn
  refine h _ ⟨I.ok,I.os,I.bare,⟨fun b o e n hb hx=>?_,fun b o e n hb hx=>?_,I.base.free,fun b o e hx=>?_,I.base.tups,I.base.frzs,I.base.tbls⟩,⟨_,hn',fun j y v' e1 e2 e3=>?_⟩,fun y c e=>?_,I.free,I.freeC,fun p hp=>?_,tracked ⟨oL,hoL,I.free⟩ hs,by simpa using I.len⟩ ⟨_,hs,.inl rfl⟩
  ·exact(hs.2 b (Nat.ne_of_lt (Nat.lt_of_lt_of_le (Heap.lt_size e) I.ok.above))).trans (I.base.keep b o e n hb hx)
  ·obtain⟨sl,e1⟩:=I.base.slot b o e n hb hx
   exact⟨sl,(hs.2 b (Nat.ne_of_lt (Nat.lt_of_lt_of_le (Heap.lt_size e) I.ok.above))).trans e1⟩
  ·obtain⟨o',e1⟩:=I.base.there b o e hx
   exact⟨o',(hs.2 b (Nat.ne_of_lt (Nat.lt_of_lt_of_le (Heap.lt_size e) I.ok.above))).trans e1⟩
  ·by_cases hj:j=i
   ·subst hj
    rw[hi] at e1;cases e1
    rw[List.getElem?_set_self hiσ] at e2
    cases e2
    exact⟨u,r,.inl ⟨hk,by simp⟩⟩
   ·rw[List.getElem?_set_ne (Ne.symm hj)] at e2
    obtain⟨u',r',q⟩:=hl j y v' e1 e2 e3
    refine⟨u',r',?_⟩
    rcases q with ⟨k,e⟩|⟨k,c,e,z⟩
    ·refine .inl ⟨k,?_⟩
     have:y≠x:=fun e=>hj (rR hN e1 (e ▸ hi))
     simp[this,e]
    ·exact .inr ⟨k,c,e,z.sameBut hs (cne y c e)⟩
  ·obtain⟨w',z⟩:=I.cell y c e
   exact⟨w',z.sameBut hs (cne y c e)⟩
  ·obtain⟨e,n,ne,nf,d⟩:=I.pin p hp
   exact⟨(hs.2 p.1 ne).trans e,n,ne,nf,d⟩
 ·have hfn:X.fn x=true:=by
   rcases hf with z|z
   ·exact z
   ·rw[z] at hk;cases hk
  obtain⟨c,hc⟩:=I.ok.has x (.inl hk)
  obtain⟨w',z⟩:=I.cell x c hc
  refine wpAny_storeName_cell I.ok.kind hk hc z (fun h' hc' hs=>?_)
  obtain⟨oc,hoc,hocd⟩:=id z
  refine h { s with heap:=h' } ⟨I.ok,I.os,I.bare,⟨fun b o e n hb hx=>?_,fun b o e n hb hx=>?_,I.base.free,fun b o e hx=>?_,I.base.tups,I.base.frzs,I.base.tbls⟩,⟨m,hn.sameBut hs (Ne.symm (cne x c hc)),fun j y v' e1 e2 e3=>?_⟩,fun y c' e=>?_,I.free,I.freeC,fun p hp=>?_,tracked ⟨oc,hoc,I.freeC x c hc⟩ hs,by simpa using I.len⟩ ⟨c,hs,.inr hc⟩
  ·exact(hs.2 b (Nat.ne_of_lt (Nat.lt_of_lt_of_le (Heap.lt_size e) (I.ok.cab x c hfn hc)))).trans (I.base.keep b o e n hb hx)
  ·obtain⟨sl,e1⟩:=I.base.slot b o e n hb hx
   exact⟨sl,(hs.2 b (Nat.ne_of_lt (Nat.lt_of_lt_of_le (Heap.lt_size e) (I.ok.cab x c hfn hc)))).trans e1⟩
  ·obtain⟨o',e1⟩:=I.base.there b o e hx
   exact⟨o',(hs.2 b (Nat.ne_of_lt (Nat.lt_of_lt_of_le (Heap.lt_size e) (I.ok.cab x c hfn hc)))).trans e1⟩
  ·by_cases hj:j=i
   ·subst hj
    rw[hi] at e1;cases e1
    rw[List.getElem?_set_self hiσ] at e2
    cases e2
    exact⟨u,r,.inr ⟨.inl hk,c,hc,hc'⟩⟩
   ·rw[List.getElem?_set_ne (Ne.symm hj)] at e2
    obtain⟨u',r',q⟩:=hl j y v' e1 e2 e3
    refine⟨u',r',?_⟩
    rcases q with q|⟨k,c',e,z'⟩
    ·exact .inl q
    ·refine .inr ⟨k,c',e,z'.sameBut hs ?_⟩
     rintro rfl
     exact hj (rR hN e1 (I.ok.inj _ _ _ e hc ▸ hi))
  ·by_cases hcc:c'=c
   ·subst hcc;exact⟨_,hc'⟩
   ·obtain⟨w2,z2⟩:=I.cell y c' e
    exact⟨w2,z2.sameBut hs hcc⟩
  ·obtain⟨e,n,ne,nf,d⟩:=I.pin p hp
   refine⟨(hs.2 p.1 ?_).trans e,n,ne,nf,d⟩
   intro q
   rw[q,hoc] at e
   have q':oc=p.2:=Option.some.inj e
   exact d w' (by rw[← q'];exact hocd)
theorem eH{M:Model}{A:Around}{E:Value→Shared→Prop}{i:Nat}{x:Str}{v:V}{u:Value}{Q:Unit→Shared→Prop}(I:Inv X pins σ H s)(hN:X.N.Nodup)(hi:X.N[i]?=some x)(hx:Loc X.env.scope x)(r:RelV v u)(h:∀s',Inv X pins (σ.set i (some v)) H s'→Q () s')(hf:X.fn x=true∨X.env.scope.names.lookup x=some .local:=by first|exact .inl rfl|exact .inr rfl|assumption):wpAny M A (storeName X.env x u) Q E s:=
 pY I hN hi hx r (fun s' I' _=>h s' I') hf
theorem Inv.call'{s':Shared}{ch:List Addr}(I:Inv X pins σ H s)(ho:s'.os=s.os)(u:Un (frs X.stack) ch H H' s.heap s'.heap)(hok:HOk X.prog X.w H' s'.heap)(hg:AllBare s'.gens)(hch:∀b∈ch,(b∈X.ex∨X.s₀.heap.objs.size≤b)∧b≠X.env.locals∧(∀x c,X.env.cells.lookup x=some c→c≠b)∧∀p∈X.pn++pins,p.1≠b):Inv X pins σ H' s':=by
 obtain⟨h',g',d',t',o'⟩:=s'
 have e:o'=s.os:=ho
 subst e
 exact I.call (g':=g') (t':=t') (d':=d') u hok hg hch
end
abbrev XK:=Value→Option Addr→Hp→Prop
abbrev St:=List (Option V)
abbrev VK:=V→Hp→Prop
abbrev TE:=St→Hp→VK→Prop
abbrev TT:=St→Hp→(Bool→Hp→Prop)→Prop
abbrev TA:=St→Hp→(List V→Hp→Prop)→Prop
structure Ends where
 nx:St→Hp→Prop
 rt:VK
 bk:St→Hp→Prop:=fun _ _=>False
 ct:St→Hp→Prop:=fun _ _=>False
abbrev TS:=Ends→St→Hp→Prop
def EP(X:Cx)(pins:List (Addr×Obj))(σ:St)(Q:VK)(u:Value)(s':Shared):Prop:=∃v H',Inv X pins σ H' s'∧RelV v u∧Q v H'
def TP(X:Cx)(pins:List (Addr×Obj))(σ:St)(Q:Bool→Hp→Prop)(b:Bool)(s':Shared):Prop:=∃H',Inv X pins σ H' s'∧Q b H'
def AP(X:Cx)(pins:List (Addr×Obj))(σ:St)(Q:List V→Hp→Prop)(us:List Value)(s':Shared):Prop:=∃vs H',Inv X pins σ H' s'∧Vals vs us∧Q vs H'
def SP(X:Cx)(pins:List (Addr×Obj))(D:Ends)(f:Flow)(s':Shared):Prop:=
 match f with
 |.next=>∃σ' H',Inv X pins σ' H' s'∧D.nx σ' H'
 |.brk=>∃σ' H',Inv X pins σ' H' s'∧D.bk σ' H'
 |.cont=>∃σ' H',Inv X pins σ' H' s'∧D.ct σ' H'
 |.ret u=>∃v σ' H',Inv X pins σ' H' s'∧RelV v u∧D.rt v H'
def PE(X:Cx)(e:Expr)(t:TE):Prop:=
 ∀ (pins:List (Addr×Obj)) (s:Shared) (σ:St) (H:Hp) (Q:VK),Inv X pins σ H s→t σ H Q→wpAny (model X.prog X.w) X.A (eval e X.env) (EP X pins σ Q) X.xe s
def PT(X:Cx)(e:Expr)(t:TT):Prop:=
 ∀ (pins:List (Addr×Obj)) (s:Shared) (σ:St) (H:Hp) (Q:Bool→Hp→Prop),Inv X pins σ H s→t σ H Q→wpAny (model X.prog X.w) X.A (isTrue e X.env (eval e X.env)) (TP X pins σ Q) X.xe s
def PW(X:Cx)(e:Expr)(t:TT):Prop:=
 ∀ (whole:Sem Value) (pins:List (Addr×Obj)) (s:Shared) (σ:St) (H:Hp) (Q:Bool→Hp→Prop),Inv X pins σ H s→t σ H Q→wpAny (model X.prog X.w) X.A (isTrue e X.env whole) (TP X pins σ Q) X.xe s
theorem PW.pt{X:Cx}{e:Expr}{t:TT}(h:PW X e t):PT X e t:=h _
def PA(X:Cx)(es:List Expr)(t:TA):Prop:=
 ∀ (pos:Pos) (pins:List (Addr×Obj)) (s:Shared) (σ:St) (H:Hp) (Q:List V→Hp→Prop),Inv X pins σ H s→t σ H Q→wpAny (model X.prog X.w) X.A (spliced (backTo pos (starEach es X.env))) (AP X pins σ Q) X.xe s
def PS(X:Cx)(st:Stmt)(t:TS):Prop:=
 ∀ (pins:List (Addr×Obj)) (s:Shared) (σ:St) (H:Hp) (D:Ends),Inv X pins σ H s→t D σ H→wpAny (model X.prog X.w) X.A (exec st X.env) (SP X pins D) X.xe s
def PSs(X:Cx)(st:List Stmt)(t:TS):Prop:=
 ∀ (pins:List (Addr×Obj)) (s:Shared) (σ:St) (H:Hp) (D:Ends),Inv X pins σ H s→t D σ H→wpAny (model X.prog X.w) X.A (execs st X.env) (SP X pins D) X.xe s
theorem thn{α:Type}{t:Sem α}{Q Q':α→Shared→Prop}{M:Model}{A:Around}{E:Value→Shared→Prop}{s:Shared}(h:wpAny M A t Q E s)(hQ:∀a s,Q a s→Q' a s):wpAny M A t Q' E s:=wpAny_mono h hQ fun _ _ x=>x
end L2
namespace L2
open PySem PySem.Spec PyProof.Rows
section
variable {X:Cx}
def tVar(i:Nat):TE:=fun σ H Q=>∃v,σ[i]?=some (some v)∧Q v H
def tC(v:V):TE:=fun _ H Q=>Q v H
theorem aDR{i:Nat}{x:Str}{pos:Pos}(hN:X.N[i]?=some x)(hv:Vis X.env.scope x)(hd:(x==("__debug__":Str))=false:=by decide)(hcd:(x==("__classdict__":Str))=false:=by decide):PE X (.Name x pos) (tVar i):=by
 intro pins s σ H Q I h
 obtain⟨v,e,h⟩:=h
 obtain⟨m,hn,hl⟩:=I.loc
 obtain⟨u,r,l⟩:=hl i x v hN e hv
 have fin:EP X pins σ Q u s:=⟨v,H,I,r,h⟩
 rcases l with ⟨hk,hm⟩|⟨hk,c,hc,hcell⟩
 ·exact wpAny_Name (wpAny_loadName_local I.ok.kind hk hn hm fin) hd
 ·rcases hk with hk|hk
  ·exact wpAny_Name (wpAny_loadName_cell I.ok.kind hk hc hcell fin) hd
  ·exact wpAny_Name (wpAny_loadName_free I.ok.kind hk hc hcell fin hcd) hd
theorem aJ{i j pos}:PE X (.Constant (.int i) j pos) (tC (.int i)):=fun _ _ _ H _ I h=>wpAny_Constant_int ⟨.int i,H,I.tok _,⟨_,rfl⟩,h⟩
theorem nK{b j pos}:PE X (.Constant (.bool b) j pos) (tC (.bl b)):=fun _ _ _ H _ I h=>Constant_bool ⟨.bl b,H,I,rfl,h⟩
theorem eI{j pos}:PE X (.Constant .none j pos) (tC .non):=fun _ _ _ H _ I h=>Constant_none ⟨.non,H,I,rfl,h⟩
def Gl(X:Cx)(x:Str):Prop:=X.env.kindOf x=some .globalImplicit
theorem lM{E:Value→Shared→Prop}{pins:List (Addr×Obj)}{s:Shared}{σ:St}{H:Hp}{x:Str}{u:Value}{pos:Pos}{Q:Value→Shared→Prop}(I:Inv X pins σ H s)(hg:Gl X x)(hm:X.mg x=some u)(h:Q u s)(hd:(x==("__debug__":Str))=false:=by decide):wpAny (model X.prog X.w) X.A (eval (.Name x pos) X.env) Q E s:=
 Calls.Name_function_global I.ok.kind hg (Calls.loadGlobal_global (by rw[I.ok.glob];exact I.mod.glob.keeps I.bk) hm h) hd
theorem fF{E:Value→Shared→Prop}{pins:List (Addr×Obj)}{s:Shared}{σ:St}{H:Hp}{x:Str}{u:Value}{pos:Pos}{Q:Value→Shared→Prop}(I:Inv X pins σ H s)(hg:Gl X x)(hm:X.mg x=none)(hv:bootBuiltins x=some u)(h:Q u s)(hn:x≠"__name__":=by decide)(hd:(x==("__debug__":Str))=false:=by decide):wpAny (model X.prog X.w) X.A (eval (.Name x pos) X.env) Q E s:=by
 obtain⟨mb,h1,h2⟩:=I.mod.blt
 exact Calls.Name_function_global I.ok.kind hg (Calls.loadGlobal_builtin (by rw[I.ok.glob];exact I.mod.glob.keeps I.bk) hm (by rw[I.ok.blt];exact h1.keeps I.bk) ((h2 x hn).trans hv) h) hd
theorem lN{x:Str}{v:V}{u:Value}{pos:Pos}(hg:Gl X x)(hm:X.mg x=some u)(r:RelV v u)(hd:(x==("__debug__":Str))=false:=by decide):PE X (.Name x pos) (tC v):=
 fun _ _ _ H _ I h=>lM I hg hm ⟨v,H,I,r,h⟩ hd
theorem iF{x:Str}{v:V}{u:Value}{pos:Pos}(hg:Gl X x)(hm:X.mg x=none)(hv:bootBuiltins x=some u)(r:RelV v u)(hn:x≠"__name__":=by decide)(hd:(x==("__debug__":Str))=false:=by decide):PE X (.Name x pos) (tC v):=
 fun _ _ _ H _ I h=>fF I hg hm hv ⟨v,H,I,r,h⟩ hn hd
variable {a b:Expr} {ta tb:TE} {pos:Pos}
def PC(X:Cx)(op:CmpOp)(a b:Expr)(t:TE):Prop:=
 ∀ (pins:List (Addr×Obj)) (s:Shared) (σ:St) (H:Hp) (Q:VK),Inv X pins σ H s→t σ H Q→
  wpAny (model X.prog X.w) X.A (eval a X.env) (fun v s₁=>wpAny (model X.prog X.w) X.A (eval b X.env) (fun u s₂=>wpAny (model X.prog X.w) X.A (compareOp op v u) (EP X pins σ Q) X.xe s₂) X.xe s₁) X.xe s
def tB(t:TE):TT:=fun σ H Q=>t σ H fun x H1=>∃c,x=.bl c∧Q c H1
theorem aDS{op:CmpOp}{t:TE}(h:PC X op a b t)(h1:behindInMarks op b=false:=by first|exact nobehind _ (by decide) (by decide)|rfl):PT X (.Compare a [op] [b] pos) (tB t):=by
 intro pins s σ H Q I hw
 refine wpAny_isTrue_Compare1 (thn (h pins s σ H _ I hw) fun v s1 h1=>thn h1 fun u s2 h2=>thn h2 fun c s3 ⟨x,H1,I1,r1,q1⟩=>?_) h1
 obtain⟨d,rfl,q⟩:=q1
 cases r1
 exact wpAny_truthy_bool ⟨H1,I1,q⟩
theorem fJ{e:Expr}{t:TE}(h:PE X e t)(he:∀whole,isTrue e X.env whole=(do let v ← whole;standAt e.pos;holding [v] (truthy v)):=by intro _;rfl):PT X e (tB t):=by
 intro pins s σ H Q I hw
 refine isTrue_plain (thn (h pins s σ H _ I hw) fun v s1 ⟨x,H1,I1,r1,q1⟩=>?_) (he _)
 obtain⟨d,rfl,q⟩:=q1
 cases r1
 exact wpAny_truthy_bool ⟨H1,I1,q⟩
variable {tA tB':TT} {rest:List Expr}
def tAnd(t u:TT):TT:=fun σ H Q=>t σ H fun c H1=>if c=true then u σ H1 Q else Q false H1
def tOr(t u:TT):TT:=fun σ H Q=>t σ H fun c H1=>if c=true then Q true H1 else u σ H1 Q
def tNot(t:TT):TT:=fun σ H Q=>t σ H fun c H1=>Q (!c) H1
theorem lO(ha:PT X a tA):PW X (.BoolOp .And [a] pos) tA:=by
 intro wh pins s σ H Q I h
 refine isTrue_and (thn (ha pins s σ H Q I h) fun c s1 e=>?_)
 cases c with
 |true=>exact isTrue_and_nil e
 |false=>exact e
theorem aAg(ha:PT X a tA):PW X (.BoolOp .Or [a] pos) tA:=by
 intro wh pins s σ H Q I h
 refine isTrue_or (thn (ha pins s σ H Q I h) fun c s1 e=>?_)
 cases c with
 |false=>exact isTrue_or_nil e
 |true=>exact e
theorem nL(ha:PT X a tA)(hb:PW X (.BoolOp .And (b::rest) pos) tB'):PW X (.BoolOp .And (a::b::rest) pos) (tAnd tA tB'):=by
 intro wh pins s σ H Q I h
 refine isTrue_and (thn (ha pins s σ H _ I h) fun c s1 ⟨H1,I1,q1⟩=>?_)
 cases c with
 |true=>exact hb wh pins s1 σ H1 Q I1 q1
 |false=>exact⟨H1,I1,q1⟩
theorem xT(ha:PT X a tA)(hb:PW X (.BoolOp .Or (b::rest) pos) tB'):PW X (.BoolOp .Or (a::b::rest) pos) (tOr tA tB'):=by
 intro wh pins s σ H Q I h
 refine isTrue_or (thn (ha pins s σ H _ I h) fun c s1 ⟨H1,I1,q1⟩=>?_)
 cases c with
 |true=>exact⟨H1,I1,q1⟩
 |false=>exact hb wh pins s1 σ H1 Q I1 q1
theorem jG(ha:PT X a tA):PT X (.UnaryOp .Not a pos) (tNot tA):=by
 intro pins s σ H Q I h
 exact isTrue_not (ha pins s σ H (fun c H1=>Q (!c) H1) I h)
def aEB(ta tb:TE):TE:=fun σ H Q=>ta σ H fun x H1=>∃c,x=.bl c∧if c=true then tb σ H1 Q else Q (.bl false) H1
def aEC(ta:TE):TE:=fun σ H Q=>ta σ H fun x H1=>∃c,x=.bl c∧Q (.bl (!c)) H1
theorem jH{op}{t:TE}(h:PE X a t):PE X (.BoolOp op [a] pos) t:=fun pins s σ H Q I hw=>BoolOp_one (h pins s σ H Q I hw)
theorem gQ(ha:PE X a ta)(hb:PE X (.BoolOp .And (b::rest) pos) tb):PE X (.BoolOp .And (a::b::rest) pos) (aEB ta tb):=by
 intro pins s σ H Q I h
 refine BoolOp_and (thn (ha pins s σ H _ I h) fun v s1 ⟨x,H1,I1,r1,q1⟩=>?_)
 obtain⟨c,rfl,q1⟩:=q1
 cases r1
 refine wpAny_truthy_bool ?_
 cases c with
 |true=>exact hb pins s1 σ H1 Q I1 q1
 |false=>exact⟨.bl false,H1,I1,rfl,q1⟩
theorem aAh(ha:PE X a ta):PE X (.UnaryOp .Not a pos) (aEC ta):=by
 intro pins s σ H Q I h
 refine UnaryOp_ (thn (ha pins s σ H _ I h) fun v s1 ⟨x,H1,I1,r1,q1⟩=>?_)
 obtain⟨c,rfl,q1⟩:=q1
 cases r1
 exact not_of (wpAny_truthy_bool ⟨.bl (!c),H1,I1,rfl,q1⟩)
def tIf(t:TT)(ta tb:TE):TE:=fun σ H Q=>t σ H fun c H1=>if c=true then ta σ H1 Q else tb σ H1 Q
theorem aBF{c:Expr}(hc:PT X c tA)(ha:PE X a ta)(hb:PE X b tb):PE X (.IfExp c a b pos) (tIf tA ta tb):=by
 intro pins s σ H Q I h
 refine wpAny_IfExp (thn (hc pins s σ H _ I h) fun d s1 ⟨H1,I1,q1⟩=>?_)
 cases d with
 |true=>exact ha pins s1 σ H1 Q I1 q1
 |false=>exact hb pins s1 σ H1 Q I1 q1
end
end L2
namespace L2
open PySem PySem.Spec PyProof.Rows
def SqL(K:PySem.W.Frag)(H:Hp)(a:Addr)(xs:List V):Prop:=
 Rd H a (.lst xs)∨
  ∃ (o:Obj) (its:Array Value) (n:Nat),K.lookup a=some o∧o.cls=.type "list"∧o.dict=none∧o.data=.seq its n∧its.size≤sizeLine∧Vals xs its.toList
def SqT(K:PySem.W.Frag)(H:Hp)(a:Addr)(xs:List V):Prop:=
 Rd H a (.tup xs)∨
  ∃ (o:Obj) (its:Array Value) (n:Nat),K.lookup a=some o∧o.cls=.type "tuple"∧o.data=.seq its n∧its.size≤sizeLine∧Vals xs its.toList
def absV:Value→Option V
 |.none=>some .non
 |.bool b=>some (.bl b)
 |.int i _=>some (.int i)
 |.str x _=>some (.str x)
 |.bytes b _=>some (.byt b)
 |.float b _=>some (.flt b)
 |.ref a=>some (.ref a)
 |.type n=>some (.ty n)
 |_=>none
theorem RelV.abs{x:V}{u:Value}(r:RelV x u):absV u=some x:=by
 cases x with
 |non=>cases r;rfl
 |bl _=>cases r;rfl
 |int _=>obtain⟨t,rfl⟩:=r;rfl
 |str _=>obtain⟨t,rfl⟩:=r;rfl
 |byt _=>obtain⟨t,rfl⟩:=r;rfl
 |flt _=>obtain⟨t,rfl⟩:=r;rfl
 |ref _=>cases r;rfl
 |ty _=>cases r;rfl
theorem RelV.inj{x y:V}{u:Value}(r:RelV x u)(q:RelV y u):x=y:=Option.some.inj (r.abs.symm.trans q.abs)
theorem Vals.inj:∀ {xs ys:List V} {us:List Value},Vals xs us→Vals ys us→xs=ys
 |_,_,_,.nil,.nil=>rfl
 |_,_,_,.cons r t,.cons r' t'=>by rw[r.inj r',Vals.inj t t']
section
variable {X:Cx} {pins:List (Addr×Obj)} {σ:St} {H:Hp} {s:Shared} {a:Addr} {xs ys:List V}
theorem SqL.of{K:PySem.W.Frag}(h:H a=some (.lst xs)):SqL K H a xs:=.inl (.inl h)
theorem SqT.of{K:PySem.W.Frag}(h:H a=some (.tup xs)):SqT K H a xs:=.inl (.inl h)
theorem Inv.list(I:Inv X pins σ H s)(h:SqL X.K H a xs):∃its:List Value,Vals xs its∧PlainL s.heap a its.toArray∧xs.length≤sizeLine:=by
 rcases h with h|⟨o,its,n,hk,hc,hd,hs,hz,r⟩
 ·obtain⟨z,its,n,r,e⟩:=h.ok I.hok
  exact⟨its,r,⟨_,n,e,rfl,rfl,rfl⟩,z⟩
 ·refine⟨its.toList,r,⟨o,n,I.kIn a o hk,hc,hd,by simpa using hs⟩,?_⟩
  have e:=r.length
  simp only[Array.length_toList] at e
  lia
theorem Inv.tuple(I:Inv X pins σ H s)(h:SqT X.K H a xs):∃its:List Value,Vals xs its∧IsTup s.heap a its.toArray∧xs.length≤sizeLine:=by
 rcases h with h|⟨o,its,n,hk,hc,hs,hz,r⟩
 ·obtain⟨z,its,r,p⟩:=h.ok I.hok
  exact⟨its,r,p.tup,z⟩
 ·refine⟨its.toList,r,⟨o,I.kIn a o hk,hc,n,by simpa using hs⟩,?_⟩
  have e:=r.length
  simp only[Array.length_toList] at e
  lia
theorem Inv.list_inj(I:Inv X pins σ H s)(h:SqL X.K H a xs)(h':SqL X.K H a ys):xs=ys:=by
 obtain⟨its,r,⟨o,n,e,_,_,d⟩,_⟩:=I.list h
 obtain⟨its',r',⟨o',n',e',_,_,d'⟩,_⟩:=I.list h'
 rw[e] at e';cases e'
 rw[d] at d'
 injection d' with d1 _
 have:its=its':=by simpa using congrArg Array.toList d1
 subst this
 exact r.inj r'
theorem Inv.tuple_inj(I:Inv X pins σ H s)(h:SqT X.K H a xs)(h':SqT X.K H a ys):xs=ys:=by
 obtain⟨its,r,⟨o,e,_,n,d⟩,_⟩:=I.tuple h
 obtain⟨its',r',⟨o',e',_,n',d'⟩,_⟩:=I.tuple h'
 rw[e] at e';cases e'
 rw[d] at d'
 injection d' with d1 _
 have:its=its':=by simpa using congrArg Array.toList d1
 subst this
 exact r.inj r'
end
abbrev Cx.wish(X:Cx)(E:Value→Shared→Prop):Cx:={ X with xe:=E }
abbrev Cx.nox(X:Cx):Cx:=X.wish fun _ _=>False
theorem Cx.Ok.wish{X:Cx}(ok:X.Ok)(E:Value→Shared→Prop):(X.wish E).Ok:=
 ⟨ok.mod,ok.kind,ok.glob,ok.blt,ok.above,ok.inj,ok.has,ok.cab,ok.hd,ok.frames,ok.stk,ok.exf,ok.bs,ok.bsz,ok.noex,ok.exfs,ok.funs,ok.frf⟩
theorem Cx.Ok.unwish{X:Cx}{E:Value→Shared→Prop}(ok:(X.wish E).Ok):X.Ok:=
 ⟨ok.mod,ok.kind,ok.glob,ok.blt,ok.above,ok.inj,ok.has,ok.cab,ok.hd,ok.frames,ok.stk,ok.exf,ok.bs,ok.bsz,ok.noex,ok.exfs,ok.funs,ok.frf⟩
section
variable {X:Cx} {pins:List (Addr×Obj)} {σ:St} {H:Hp} {s:Shared} {E:Value→Shared→Prop}
theorem Inv.wish(I:Inv X pins σ H s)(E:Value→Shared→Prop):Inv (X.wish E) pins σ H s:=⟨I.ok.wish E,I.os,I.bare,I.base,I.loc,I.cell,I.free,I.freeC,I.pin,I.hok,I.len⟩
theorem Inv.unwish(I:Inv (X.wish E) pins σ H s):Inv X pins σ H s:=⟨I.ok.unwish,I.os,I.bare,I.base,I.loc,I.cell,I.free,I.freeC,I.pin,I.hok,I.len⟩
theorem SP.unwish{D:Ends}{f:Flow}{s':Shared}(h:SP (X.wish E) pins D f s'):SP X pins D f s':=by
 cases f with
 |next=>obtain⟨σ',H',I,q⟩:=h;exact⟨σ',H',I.unwish,q⟩
 |brk=>obtain⟨σ',H',I,q⟩:=h;exact⟨σ',H',I.unwish,q⟩
 |cont=>obtain⟨σ',H',I,q⟩:=h;exact⟨σ',H',I.unwish,q⟩
 |ret u=>obtain⟨v,σ',H',I,r,q⟩:=h;exact⟨v,σ',H',I.unwish,r,q⟩
theorem PSs.nox{st:List Stmt}{t:TS}(h:PSs X.nox st t):PSs X st t:=fun pins s σ H D I hw=>
 wpAny_mono (h pins s σ H D (I.wish _) hw) (fun _ _ q=>q.unwish) fun _ _ z=>False.elim z
end
section
variable {X:Cx} {st:Stmt} {rest:List Stmt} {t u:TS} {e:Expr} {te:TE} {pos:Pos}
def aCl:TS:=fun D σ H=>D.nx σ H
def tSeq(t u:TS):TS:=fun D σ H=>t { D with nx:=u D } σ H
theorem bS:PSs X [] aCl:=fun _ _ σ H _ I h=>wpAny_execs_nil ⟨σ,H,I,h⟩
theorem aF(h1:PS X st t)(h2:PSs X rest u):PSs X (st::rest) (tSeq t u):=by
 intro pins s σ H D I h
 refine wpAny_execs_cons (thn (h1 pins s σ H { D with nx:=u D } I h) fun f s1 q=>?_)
 cases f with
 |next=>
  obtain⟨σ',H',I',q⟩:=q
  exact h2 pins s1 σ' H' D I' q
 |ret v=>exact q
 |brk=>exact q
 |cont=>exact q
theorem aI(h1:PS X st t):PSs X [st] t:=by
 intro pins s σ H D I h
 refine wpAny_execs_cons (thn (h1 pins s σ H D I h) fun f s1 q=>?_)
 cases f with
 |next=>exact wpAny_execs_nil q
 |ret v=>exact q
 |brk=>exact q
 |cont=>exact q
theorem Inv.quiet{pins:List (Addr×Obj)}{σ:St}{H:Hp}{s:Shared}(I:Inv X pins σ H s):interactive X.env=false:=by simp[interactive,I.ok.kind]
def aED(te:TE):TS:=fun D σ H=>te σ H fun _ H1=>D.nx σ H1
theorem bV(he:PE X e te)(hs:swapsWith e none pos.line X.env=pure false:=by rfl):PS X (.Expr e pos) (aED te):=by
 intro pins s σ H D I h
 exact wpAny_Expr_any (thn (he pins s σ H _ I h) fun v s1 ⟨x,H1,I1,r1,q1⟩=>⟨σ,H1,I1,q1⟩) I.quiet hs
def tRet(te:TE):TS:=fun D σ H=>te σ H D.rt
theorem bA(he:PE X e te):PS X (.Return (some e) pos) (tRet te):=by
 intro pins s σ H D I h
 exact wpAny_Return_some (thn (he pins s σ H _ I h) fun v s1 ⟨x,H1,I1,r1,q1⟩=>⟨x,σ,H1,I1,r1,q1⟩)
def tIfS(c:TT)(t u:TS):TS:=fun D σ H=>c σ H fun b H1=>if b=true then t D σ H1 else u D σ H1
theorem bZ{c:Expr}{a b:List Stmt}{tc:TT}(hc:PT X c tc)(ha:PSs X a t)(hb:PSs X b u):PS X (.If c a b pos) (tIfS tc t u):=by
 intro pins s σ H D I h
 refine wpAny_If (thn (hc pins s σ H _ I h) fun d s1 ⟨H1,I1,q1⟩=>?_)
 cases d with
 |true=>exact ha pins s1 σ H1 D I1 q1
 |false=>exact hb pins s1 σ H1 D I1 q1
def aDT:TS:=fun _ _ _=>False
theorem dW{sts:List Stmt}:PSs X sts aDT:=fun _ _ _ _ _ _ h=>h.elim
end
abbrev TG:=V→St→Hp→(St→Hp→Prop)→Prop
abbrev TGs:=List V→St→Hp→(St→Hp→Prop)→Prop
def PG(X:Cx)(target:Expr)(t:TG):Prop:=
 ∀ (pins:List (Addr×Obj)) (s:Shared) (σ:St) (H:Hp) (v:V) (u:Value) (Q:St→Hp→Prop),Inv X pins σ H s→RelV v u→t v σ H Q→
  wpAny (model X.prog X.w) X.A (assign target X.env u) (fun _ s'=>∃σ' H',Inv X pins σ' H' s'∧Q σ' H') X.xe s
def PGs(X:Cx)(ts:List Expr)(t:TGs):Prop:=
 ∀ (pins:List (Addr×Obj)) (s:Shared) (σ:St) (H:Hp) (vs:List V) (us:List Value) (Q:St→Hp→Prop),Inv X pins σ H s→Vals vs us→t vs σ H Q→
  wpAny (model X.prog X.w) X.A (assignInOrder ((assignEach ts X.env).map (·.2)) us) (fun _ s'=>∃σ' H',Inv X pins σ' H' s'∧Q σ' H') X.xe s
abbrev TSet:=V→V→V→Hp→(Hp→Prop)→Prop
def PSet(X:Cx)(t:TSet):Prop:=
 ∀ (pins:List (Addr×Obj)) (s:Shared) (σ:St) (H:Hp) (o i v:V) (ov iv u:Value) (Q:Hp→Prop),Inv X pins σ H s→RelV o ov→RelV i iv→RelV v u→t o i v H Q→
  wpAny (model X.prog X.w) X.A (setItem ov iv u) (fun _ s'=>∃H',Inv X pins σ H' s'∧Q H') X.xe s
abbrev TIp:=V→V→Hp→VK→Prop
def PIp(X:Cx)(op:Operator)(t:TIp):Prop:=
 ∀ (pins:List (Addr×Obj)) (s:Shared) (σ:St) (H:Hp) (x y:V) (v u:Value) (Q:VK),Inv X pins σ H s→RelV x v→RelV y u→t x y H Q→
  wpAny (model X.prog X.w) X.A (inplaceOp op v u) (EP X pins σ Q) X.xe s
section
variable {X:Cx} {pos:Pos}
def bB(i:Nat):TG:=fun v σ H Q=>Q (σ.set i (some v)) H
theorem aK{i:Nat}{x:Str}(hN:X.N.Nodup)(hi:X.N[i]?=some x)(hx:Loc X.env.scope x)(hf:X.fn x=true∨X.env.scope.names.lookup x=some .local:=by first|exact .inl rfl|exact .inr rfl|assumption):PG X (.Name x pos) (bB i):=by
 intro pins s σ H v u Q I r h
 exact wpAny_assign_Name (eH I hN hi hx r (fun s' I'=>⟨_,H,I',h⟩) hf)
def gNil:TGs:=fun vs σ H Q=>vs=[]∧Q σ H
def cY(t:TG)(u:TGs):TGs:=fun vs σ H Q=>∃v r,vs=v::r∧t v σ H fun σ' H'=>u r σ' H' Q
theorem cF:PGs X [] gNil:=by
 intro pins s σ H vs us Q I r h
 obtain⟨e,h⟩:=h
 subst e
 cases r
 exact assignInOrder_nil ⟨σ,H,I,h⟩
theorem aR{e:Expr}{es:List Expr}{t:TG}{u:TGs}(h1:PG X e t)(h2:PGs X es u)(hs:(assignEach (e::es) X.env).map (·.2)=assign e X.env::(assignEach es X.env).map (·.2):=by rfl):PGs X (e::es) (cY t u):=by
 intro pins s σ H vs us Q I r h
 obtain⟨v,vr,e1,h⟩:=h
 subst e1
 cases r with
 |cons r rr=>
  rw[hs]
  refine assignInOrder_cons (thn (h1 pins s σ H _ _ _ I r h) fun _ s1 ⟨σ1,H1,I1,q1⟩=>?_)
  exact h2 pins s1 σ1 H1 _ _ Q I1 rr q1
def gTup(K:PySem.W.Frag)(n:Nat)(t:TGs):TG:=fun v σ H Q=>∃a xs,v=.ref a∧SqT K H a xs∧xs.length=n∧t xs σ H Q
theorem cM{es:List Expr}{k:Nat}{t:TGs}{n:Nat}(hc:X.calm=true)(h:PGs X es t)(hn:(assignEach es X.env).length=n:=by rfl)(hst:(assignEach es X.env).findIdx? (·.1)=none:=by rfl):PG X (.Tuple es k pos) (gTup X.K n t):=by
 intro pins s σ H v u Q I r hw
 obtain⟨a,xs,e1,hq,hl,hw⟩:=hw
 subst e1
 cases r
 obtain⟨its,rv,ht,hz⟩:=I.tuple hq
 refine assign_Tuple_tuple (I.ok.hd hc) ht (by simp[hn,← hl,rv.length]) hst fun h' hx=>?_
 have I1:Inv X pins σ H { s with heap:=h' }:=I.kept (t':=s.toks) fun b o e=>hx b o (Nat.ne_of_lt (Heap.lt_size e)) e
 exact h pins _ σ H xs _ Q I1 (by simpa using rv) hw
def gSub(to ti:TE)(t:TSet):TG:=fun v σ H Q=>to σ H fun o H1=>ti σ H1 fun i H2=>t o i v H2 fun H3=>Q σ H3
theorem dH{o i:Expr}{to ti:TE}{t:TSet}(ho:PE X o to)(hi:PE X i ti)(hs:PSet X t)(ha:∀v,assign (.Subscript o i pos) X.env v=(do
   let ov ← holding [v] (eval o X.env)
   let iv ← holding [v,ov] (eval i X.env)
   standAt pos
   holding [v,ov,iv] (setItem ov iv v)
   release [v,ov,iv] []):=by intro _;rfl):PG X (.Subscript o i pos) (gSub to ti t):=by
 intro pins s σ H v u Q I r h
 rw[ha]
 refine wpAny_bind (wpAny_holding (thn (ho pins s σ H _ I h) fun ov s1 ⟨x,H1,I1,r1,q1⟩=>?_))
 refine wpAny_bind (wpAny_holding (thn (hi pins s1 σ H1 _ I1 q1) fun iv s2 ⟨y,H2,I2,r2,q2⟩=>?_))
 refine wpAny_bind (wpAny_standAt (wpAny_bind (wpAny_holding (thn (hs pins s2 σ H2 x y v ov iv u _ I2 r1 r2 r q2) fun _ s3 ⟨H3,I3,q3⟩=>?_))))
 exact wpAny_release ⟨σ,H3,I3,q3⟩
def tAsg(te:TE)(g:TG):TS:=fun D σ H=>te σ H fun x H1=>g x σ H1 D.nx
theorem cK{tg e:Expr}{te:TE}{g:TG}(he:PE X e te)(hg:PG X tg g)(hs:swapsWithSole [tg] e pos.line X.env=pure false:=by rfl)(hw:swappedStores [tg] e X.env=pure none:=by rfl)(h1:(assignEach [tg] X.env).map (·.2)=[assign tg X.env]:=by rfl):PS X (.Assign [tg] e pos) (tAsg te g):=by
 intro pins s σ H D I h
 refine wpAny_Assign_stores (thn (he pins s σ H _ I h) fun v s1 ⟨x,H1,I1,r1,q1⟩=>?_) hs hw
 rw[h1]
 exact thn (hg pins s1 σ H1 x v _ I1 r1 q1) fun _ s2 q=>q
theorem aT{i:Nat}{x:Str}{e:Expr}{te:TE}{pos':Pos}(hN:X.N.Nodup)(hi:X.N[i]?=some x)(hx:Loc X.env.scope x)(he:PE X e te)(hs:swapsWith e (some (.Name x pos')) pos.line X.env=pure false:=by rfl)(hf:X.fn x=true∨X.env.scope.names.lookup x=some .local:=by first|exact .inl rfl|exact .inr rfl|assumption):
  PS X (.Assign [.Name x pos'] e pos) (tAsg te (bB i)):=by
 intro pins s σ H D I h
 refine wpAny_Assign_Name (thn (he pins s σ H _ I h) fun v s1 ⟨y,H1,I1,r1,q1⟩=>?_) hs
 exact eH I1 hN hi hx r1 (fun s2 I2=>⟨_,H1,I2,q1⟩) hf
def tPar(i j:Nat)(ta:TA):TS:=fun D σ H=>ta σ H fun vs H1=>∃v w,vs=[v,w]∧D.nx ((σ.set i (some v)).set j (some w)) H1
theorem rS{i j:Nat}{x y:Str}{a b:Expr}{ta:TA}{px py pt:Pos}{kt k2 pt2}(hc:X.calm=true)(hN:X.N.Nodup)(hi:X.N[i]?=some x)(hj:X.N[j]?=some y)(hij:i≠j)(hx:X.env.scope.names.lookup x=some .local)(hy:X.env.scope.names.lookup y=some .local)(ha:PA X [a,b] ta)(hw:swappedStores [.Tuple [.Name x px,.Name y py] kt pt] (.Tuple [a,b] k2 pt2) X.env=pure (some [x,y]))(hs:swapsWithSole [.Tuple [.Name x px,.Name y py] kt pt] (.Tuple [a,b] k2 pt2) pos.line X.env=pure false:=by rfl):
  PS X (.Assign [.Tuple [.Name x px,.Name y py] kt pt] (.Tuple [a,b] k2 pt2) pos) (tPar i j ta):=by
 intro pins s σ H D I h
 rw[exec_Assign_arm]
 refine wpAny_bind (wpAny_standAt ?_)
 rw[hs]
 refine wpAny_bind (wpAny_pure ?_)
 rw[if_neg (by decide)]
 refine wpAny_bind (Tuple_ (thn (ha _ pins s σ H _ I h) fun us s1 ⟨vs,H1,I1,r1,q1⟩=>?_))
 obtain⟨v,w,e1,q1⟩:=q1
 subst e1
 obtain⟨u1,u2,rfl,rv,rw'⟩:∃u1 u2,us=[u1,u2]∧RelV v u1∧RelV w u2:=by
  cases r1 with
  |cons p q=>
   cases q with
   |cons p' q'=>
    cases q'
    exact⟨_,_,rfl,p,p'⟩
 refine wpAny_newObj_type ?_ (by show 2≤sizeLine;decide)
 have I2:Inv X pins σ H1 { s1 with heap:=s1.heap.push { cls:=.type "tuple",data:=.seq [u1,u2].toArray } }:=I1.kept (t':=s1.toks) fun b o e=>Heap.get?_push_of_some _ e
 rw[hw]
 refine wpAny_bind (wpAny_pure ?_)
 show wpAny (model X.prog X.w) X.A (do rule "assign.swapped-stores";let items ← unpackItems (.ref s1.heap.objs.size) 2 none;assignInOrder [fun v=>bindName X.env y v,fun v=>bindName X.env x v] items.reverse;pure Flow.next) _ _ _
 refine wpAny_bind (wpAny_rule (wpAny_bind (unpackItems_tuple (items:=#[u1,u2]) (I.ok.hd hc) (IsTup.new s1.heap _) fun h' hx'=>?_)))
 have I3:=I2.kept (h':=h') (t':=s1.toks) fun b o e=>hx' b o (Nat.ne_of_lt (Heap.lt_size e)) e
 show wpAny _ _ (assignInOrder [fun v=>bindName X.env y v,fun v=>bindName X.env x v] [u2,u1] >>= fun _=>pure Flow.next) _ _ _
 refine wpAny_bind (assignInOrder_cons (wpAny_bindName (eH I3 hN hj (.inl hy) rw' (fun s2 I4=>?_) (.inr hy))))
 refine assignInOrder_cons (wpAny_bindName (eH I4 hN hi (.inl hx) rv (fun s3 I5=>assignInOrder_nil (wpAny_pure ?_)) (.inr hx)))
 rw[List.set_comm _ _ (Ne.symm hij)] at I5
 exact⟨_,H1,I5,q1⟩
def tAug(i:Nat)(te:TE)(ti:TIp):TS:=fun D σ H=>∃x,σ[i]?=some (some x)∧te σ H fun y H1=>ti x y H1 fun z H2=>D.nx (σ.set i (some z)) H2
theorem aDU{i:Nat}{x:Str}{e:Expr}{te:TE}{op:Operator}{ti:TIp}{pos':Pos}(hN:X.N.Nodup)(hi:X.N[i]?=some x)(hx:Loc X.env.scope x)(he:PE X e te)(ho:PIp X op ti)(hf:X.fn x=true∨X.env.scope.names.lookup x=some .local:=by first|exact .inl rfl|exact .inr rfl|assumption):
  PS X (.AugAssign (.Name x pos') op e pos) (tAug i te ti):=by
 intro pins s σ H D I h
 obtain⟨v,e1,h⟩:=h
 obtain⟨m,hn,hl⟩:=I.loc
 have vis:Vis X.env.scope x:=by rcases hx with k|k;exact .inl k;exact .inr (.inl k)
 obtain⟨u,r,l⟩:=hl i x v hi e1 vis
 refine wpAny_AugAssign_Name ?_
 have go:wpAny (model X.prog X.w) X.A (eval e X.env) (fun w s₂=>wpAny (model X.prog X.w) X.A (inplaceOp op u w) (fun r s₃=>wpAny (model X.prog X.w) X.A (storeName X.env x r) (fun _=>SP X pins D .next) X.xe s₃) X.xe s₂) X.xe s:=by
  refine thn (he pins s σ H _ I h) fun w s1 ⟨y,H1,I1,r1,q1⟩=>?_
  refine thn (ho pins s1 σ H1 v y u w _ I1 r r1 q1) fun z s2 ⟨zv,H2,I2,r2,q2⟩=>?_
  exact eH I2 hN hi hx r2 (fun s3 I3=>⟨_,H2,I3,q2⟩) hf
 rcases l with ⟨hk,hm⟩|⟨hk,c,hc,hcell⟩
 ·exact wpAny_loadName_local I.ok.kind hk hn hm go
 ·rcases hk with hk|hk
  ·exact wpAny_loadName_cell I.ok.kind hk hc hcell go
  ·rcases hx with k|k
   ·have:X.env.scope.names.lookup x=some .free:=hk
    rw[k] at this;cases this
   ·have:X.env.scope.names.lookup x=some .free:=hk
    rw[k] at this;cases this
def ipI(f:Int→Int→Int):TIp:=fun x y H Q=>∃i j,x=.int i∧y=.int j∧Q (.int (f i j)) H
theorem aDV:PIp X .Add (ipI fun i j=>i+j):=by
 intro pins s σ H x y v u Q I r1 r2 h
 obtain⟨i,j,e1,e2,q⟩:=h
 subst e1;subst e2
 obtain⟨t,rfl⟩:=r1
 obtain⟨t',rfl⟩:=r2
 exact iadd_int ⟨.int _,H,I.tok _,⟨_,rfl⟩,q⟩
end
section
variable {X:Cx} {pos:Pos}
def aAi(c:TT)(tb:TS):TS:=fun D σ H=>∃W:Nat→St→Hp→Prop,(∃m,W m σ H)∧∀m σ H,W m σ H→
 c σ H fun b H1=>if b=true then ∃N:St→Hp→Prop,(∀σ' H',N σ' H'→∃m',m'<m∧W m' σ' H')∧tb { D with nx:=N,ct:=N,bk:=D.nx } σ H1 else D.nx σ H1
theorem rT{c:Expr}{body:List Stmt}{tc:TT}{tb:TS}(hp:PassesOwn (model X.prog X.w) X.A X.env X.xe)(hc:PT X c tc)(hb:PSs X body tb):PS X (.While c body [] pos) (aAi tc tb):=by
 intro pins s σ H D I h
 obtain⟨W,⟨m0,w0⟩,turn⟩:=h
 refine wpAny_While (codeAny_whileLoop (fun n s'=>∃σ' H',Inv X pins σ' H' s'∧W n σ' H') ?_ m0 ⟨σ,H,I,w0⟩)
 rintro n s1 ⟨σ1,H1,I1,w1⟩
 refine wpAny_passesOwn hp (thn (hc pins s1 σ1 H1 _ I1 (turn n σ1 H1 w1)) fun b s2 ⟨H2,I2,q2⟩=>?_)
 cases b with
 |true=>
  obtain⟨N,hN,q2⟩:=q2
  rw[if_pos rfl]
  refine wpAny_passesOwn hp (thn (hb pins s2 σ1 H2 _ I2 q2) fun f s3 q3=>?_)
  cases f with
  |next=>
   obtain⟨σ3,H3,I3,n3⟩:=q3
   obtain⟨m',hm,w3⟩:=hN σ3 H3 n3
   exact⟨m',hm,σ3,H3,I3,w3⟩
  |cont=>
   obtain⟨σ3,H3,I3,n3⟩:=q3
   obtain⟨m',hm,w3⟩:=hN σ3 H3 n3
   exact⟨m',hm,σ3,H3,I3,w3⟩
  |brk=>exact q3
  |ret v=>exact q3
 |false=>
  rw[if_neg Bool.false_ne_true]
  exact wpAny_execs_nil ⟨σ1,H2,I2,q2⟩
end
structure It where
 go:Nat→Hp→Prop
 yld:Nat→Hp→V→Hp→Prop
 stop:Nat→Hp→Prop
def FpOk(X:Cx)(pins:List (Addr×Obj))(H:Hp)(b:Addr):Prop:=
 H b=none∧b≠X.env.locals∧b∉X.fs∧(b∈X.ex∨X.s₀.heap.objs.size≤b)∧(∀x c,X.env.cells.lookup x=some c→c≠b)∧∀p∈X.pn++pins,p.1≠b
theorem Inv.fpOk{X:Cx}{pins:List (Addr×Obj)}{σ:St}{H H':Hp}{s:Shared}{b:Addr}(I:Inv X pins σ H s)(hb:s.heap.objs.size≤b)(hn:H' b=none):FpOk X pins H' b:=by
 refine⟨hn,Nat.ne_of_gt (Nat.lt_of_lt_of_le I.lt hb),I.nofs hb,.inr (Nat.le_trans I.sz hb),fun x c e z=>?_,fun p hp z=>?_⟩
 ·obtain⟨v,q⟩:=I.cell x c e
  exact absurd (Nat.lt_of_lt_of_le q.lt (by rw[z];exact hb)) (Nat.lt_irrefl _)
 ·exact absurd (Nat.lt_of_lt_of_le (Heap.lt_size (I.pin p hp).1) (by rw[z];exact hb)) (Nat.lt_irrefl _)
structure Turn(P:Program)(w:World)(K:PySem.W.Frag)(tg:Expr)(J:It)(fp:List Addr)(it:Addr)(tn:Nat→Heap→Prop):Prop where
 mem:it∈fp
 obj:∀i h,tn i h→∀b∈fp,∃o,h.get? b=some o∧∀v,o.data≠.cell v
 keep:∀i h h',tn i h→(∀b∈fp,∀o,h.get? b=some o→h'.get? b=some o)→tn i h'
 item:∀ (X:Cx),X.prog=P→X.w=w→X.K=K→X.calm=true→∀ (i:Nat) (pins:List (Addr×Obj)) (s:Shared) (σ:St) (H:Hp) (E:Value→Shared→Prop),Inv X pins σ H s→(∀b∈fp,FpOk X pins H b)→tn i s.heap→J.go i H→
  wpAny (model P w) X.A (pyNext (.ref it)) (fun r s1=>∃u,r=some u∧
   wpAny (model P w) X.A (letOwnedTupleGo tg (.ref it) u) (fun _ s2=>∃x H',Inv X pins σ H' s2∧RelV x u∧J.yld i H x H'∧tn (i+1) s2.heap∧∀b∈fp,H' b=none) E s1) E s
 done:∀ (X:Cx),X.prog=P→X.w=w→X.K=K→X.calm=true→∀ (i:Nat) (pins:List (Addr×Obj)) (s:Shared) (σ:St) (H:Hp) (E:Value→Shared→Prop),Inv X pins σ H s→(∀b∈fp,FpOk X pins H b)→tn i s.heap→J.stop i H→
  wpAny (model P w) X.A (pyNext (.ref it)) (fun r s1=>r=none∧Inv X pins σ H s1) E s
 self:∀ (A:Around) (i:Nat) (s:Shared) (Q:Value→Shared→Prop) (E:Value→Shared→Prop),tn i s.heap→Q (.ref it) s→wpAny (model P w) A (pyIter (.ref it)) Q E s
abbrev TI:=St→Hp→(It→Hp→Prop)→Prop
def PIE(X:Cx)(pins:List (Addr×Obj))(σ:St)(tg:Expr)(R:It→Hp→Prop)(itv:Value)(s2:Shared):Prop:=
 ∃ (it:Addr) (fp:List Addr) (tn:Nat→Heap→Prop) (J:It) (H':Hp),itv=.ref it∧Inv X pins σ H' s2∧Turn X.prog X.w X.K tg J fp it tn∧tn 0 s2.heap∧(∀b∈fp,FpOk X pins H' b)∧R J H'
def PI(X:Cx)(tg iter:Expr)(wi:TI):Prop:=
 ∀ (pins:List (Addr×Obj)) (s:Shared) (σ:St) (H:Hp) (R:It→Hp→Prop),Inv X pins σ H s→wi σ H R→
  wpAny (model X.prog X.w) X.A (eval iter X.env) (fun v s1=>wpAny (model X.prog X.w) X.A (pyIter v) (PIE X pins σ tg R) X.xe s1) X.xe s
theorem xU {M : Model} {A : Around} {E : Value → Shared → Prop} {s : Shared} {tg : Expr} {it : Addr} {u : Value} {o : Obj} {n : String} {vs : Array Value} {Q : Unit → Shared → Prop} (ho : s.heap.get? it = some o) (hc : o.cls = .type n) (hd : o.data = .fields vs)
    (hn : ["enumerate", "zip", "dict_itemiterator", "dict_reverseitemiterator", "odict_iterator", "itertools.zip_longest", "itertools.pairwise"].contains n = false) (hQ : Q () s) : wpAny M A (letOwnedTupleGo tg (.ref it) u) Q E s := by
  unfold letOwnedTupleGo
  cases tg <;> first
    | exact wpAny_pure hQ
    | (cases u <;> first
        | exact wpAny_pure hQ
        | (refine wpAny_bind (wpAny_load ho ?_)
           rw [hc, hd]
           show wpAny M A (if (["enumerate", "zip", "dict_itemiterator", "dict_reverseitemiterator", "odict_iterator", "itertools.zip_longest", "itertools.pairwise"].contains n && vs[0]? == some (rawInt _)) = true then _ else _) Q E s
           rw [if_neg (by intro h; rw [hn, Bool.false_and] at h; cases h)]
           exact wpAny_pure hQ))
def Itl(K:PySem.W.Frag)(a:Addr):It:=
 ⟨fun i H=>∃xs x,SqL K H a xs∧xs[i]?=some x,fun i H x H'=>H'=H∧∀xs,SqL K H a xs→xs[i]?=some x,fun i H=>∃xs,SqL K H a xs∧xs.length≤i⟩
def Itt(K:PySem.W.Frag)(a:Addr):It:=
 ⟨fun i H=>∃xs x,SqT K H a xs∧xs[i]?=some x,fun i H x H'=>H'=H∧∀xs,SqT K H a xs→xs[i]?=some x,fun i H=>∃xs,SqT K H a xs∧xs.length≤i⟩
def Itr(lo:Int)(n:Nat):It:=⟨fun i _=>i<n,fun i H x H'=>H'=H∧x=.int (lo+i),fun i _=>n≤i⟩
theorem aAj{P:Program}{w:World}{K:PySem.W.Frag}{tg:Expr}(a it:Addr):Turn P w K tg (Itl K a) [it] it (fun i h=>h.IsListIter it a i) where
 mem:=by simp
 obj:=fun i h st b hb=>by
  have e:b=it:=by simpa using hb
  subst e
  obtain⟨o,e,c,d⟩:=st
  exact⟨o,e,fun v z=>by rw[d] at z;cases z⟩
 keep:=fun i h h' st k=>st.at fun o e=>k it (by simp) o e
 item:=by
  intro X hP hw hK hc i pins s σ H E I hf st hg
  subst hP hw hK
  obtain⟨xs,x,hq,hx⟩:=hg
  obtain⟨its,rv,p,hz⟩:=I.list hq
  obtain⟨u,hu,ru⟩:=rv.get hx
  obtain⟨f0,f1,f2,f3,f4,f5⟩:=hf it (by simp)
  refine wpAny_pyNext_list_item st p.isList (x:=u) (by simpa using hu) fun h' st' sb=>?_
  have I1:Inv X pins σ H { s with heap:=h' }:=I.turned (t':=s.toks) (fun b o hb e=>(sb.2 b hb).trans e) f0 f1 f3 f4 f5
  obtain⟨o,e,c,d⟩:=id st'
  exact⟨u,rfl,xU (s:={ s with heap:=h' }) e c d (by decide) ⟨x,H,I1,ru,⟨rfl,fun ys hy=>by rw[I.list_inj hy hq];exact hx⟩,st',fun b hb=>(hf b hb).1⟩⟩
 done:=by
  intro X hP hw hK hc i pins s σ H E I hf st hg
  subst hP hw hK
  obtain⟨xs,hq,hx⟩:=hg
  obtain⟨its,rv,p,hz⟩:=I.list hq
  obtain⟨f0,f1,f2,f3,f4,f5⟩:=hf it (by simp)
  have hl:=rv.length
  exact wpAny_pyNext_list_end (I.ok.hd hc) st p.isList (by simp;lia) fun h' eb=>⟨rfl,I.turned (t':=s.toks) (fun b o hb e=>eb b o hb e) f0 f1 f3 f4 f5⟩
 self:=fun _ _ _ _ _ st h=>wpAny_pyIter_listiter st h
theorem xV{P:Program}{w:World}{K:PySem.W.Frag}{tg:Expr}(a it:Addr):Turn P w K tg (Itt K a) [it] it (fun i h=>h.IsTupleIter it a i) where
 mem:=by simp
 obj:=fun i h st b hb=>by
  have e:b=it:=by simpa using hb
  subst e
  obtain⟨o,e,c,d⟩:=st
  exact⟨o,e,fun v z=>by rw[d] at z;cases z⟩
 keep:=fun i h h' st k=>st.at fun o e=>k it (by simp) o e
 item:=by
  intro X hP hw hK hc i pins s σ H E I hf st hg
  subst hP hw hK
  obtain⟨xs,x,hq,hx⟩:=hg
  obtain⟨its,rv,p,hz⟩:=I.tuple hq
  obtain⟨u,hu,ru⟩:=rv.get hx
  obtain⟨f0,f1,f2,f3,f4,f5⟩:=hf it (by simp)
  refine wpAny_pyNext_tuple_item st (show s.heap.IsTuple a its.toArray from p) (x:=u) (by simpa using hu) fun h' st' sb=>?_
  have I1:Inv X pins σ H { s with heap:=h' }:=I.turned (t':=s.toks) (fun b o hb e=>(sb.2 b hb).trans e) f0 f1 f3 f4 f5
  obtain⟨o,e,c,d⟩:=id st'
  exact⟨u,rfl,xU (s:={ s with heap:=h' }) e c d (by decide) ⟨x,H,I1,ru,⟨rfl,fun ys hy=>by rw[I.tuple_inj hy hq];exact hx⟩,st',fun b hb=>(hf b hb).1⟩⟩
 done:=by
  intro X hP hw hK hc i pins s σ H E I hf st hg
  subst hP hw hK
  obtain⟨xs,hq,hx⟩:=hg
  obtain⟨its,rv,p,hz⟩:=I.tuple hq
  obtain⟨f0,f1,f2,f3,f4,f5⟩:=hf it (by simp)
  have hl:=rv.length
  exact wpAny_pyNext_tuple_end (I.ok.hd hc) st (show s.heap.IsTuple a its.toArray from p) (by simp;lia) fun h' eb=>⟨rfl,I.turned (t':=s.toks) (fun b o hb e=>eb b o hb e) f0 f1 f3 f4 f5⟩
 self:=fun _ _ _ _ _ st h=>wpAny_pyIter_tupleiter st h
theorem xW{P:Program}{w:World}{K:PySem.W.Frag}{tg:Expr}(it:Addr)(lo:Int)(n:Nat):Turn P w K tg (Itr lo n) [it] it (fun i h=>IsRangeIter h it (lo+(i:Nat)*1) ((n:Int)-(i:Nat)) 1) where
 mem:=by simp
 obj:=fun i h st b hb=>by
  have e:b=it:=by simpa using hb
  subst e
  exact⟨_,st,fun v z=>by
   have z':Data.fields _=Data.cell v:=z
   cases z'⟩
 keep:=fun i h h' st k=>k it (by simp) _ st
 item:=by
  intro X hP hw hK hc i pins s σ H E I hf st hg
  subst hP hw hK
  obtain⟨f0,f1,f2,f3,f4,f5⟩:=hf it (by simp)
  have W:=Walks.range (prog:=X.prog) (w:=X.w) (I.ok.hd hc) it lo 1 n
  refine W.item i s _ _ hg st fun v h' tk hv st' kk=>?_
  obtain⟨t,rfl⟩:=hv
  have I1:Inv X pins σ H { s with heap:=h',toks:=tk }:=I.turned (fun b o hb e=>kk b o (by simpa using hb) e) f0 f1 f3 f4 f5
  refine⟨_,rfl,xU (s:={ s with heap:=h',toks:=tk }) (n:="range_iterator") st' rfl rfl (by decide) ⟨.int (lo+i),H,I1,⟨t,?_⟩,⟨rfl,rfl⟩,st',fun b hb=>(hf b hb).1⟩⟩
  rw[Int.mul_one]
 done:=by
  intro X hP hw hK hc i pins s σ H E I hf st hg
  subst hP hw hK
  obtain⟨f0,f1,f2,f3,f4,f5⟩:=hf it (by simp)
  exact wpAny_pyNext_range_end (I.ok.hd hc) st (by have:n≤i:=hg;lia) fun h' eb=>⟨rfl,I.turned (t':=s.toks) (fun b o hb e=>eb b o hb e) f0 f1 f3 f4 f5⟩
 self:=fun _ _ _ _ _ st h=>wpAny_pyIter_rangeiter st h
end L2
namespace L2
open PySem PySem.Spec PyProof.Rows
section
variable {X:Cx} {tg:Expr}
def aCm(K:PySem.W.Frag)(tl:TE):TI:=fun σ H R=>tl σ H fun x H1=>∃a,x=.ref a∧(∃xs,SqL K H1 a xs)∧R (Itl K a) H1
def iTup(K:PySem.W.Frag)(tl:TE):TI:=fun σ H R=>tl σ H fun x H1=>∃a,x=.ref a∧(∃xs,SqT K H1 a xs)∧R (Itt K a) H1
theorem bN{l:Expr}{tl:TE}(hl:PE X l tl):PI X tg l (aCm X.K tl):=by
 intro pins s σ H R I h
 refine thn (hl pins s σ H _ I h) fun v s1 ⟨x,H1,I1,r1,q1⟩=>?_
 obtain⟨a,e,⟨xs,hq⟩,q⟩:=q1
 subst e
 cases r1
 obtain⟨its,rv,p,hz⟩:=I1.list hq
 refine wpAny_pyIter_list p.isList ?_
 refine⟨s1.heap.objs.size,[s1.heap.objs.size],_,_,H1,rfl,I1.kept (t':=s1.toks) fun b o e=>Heap.get?_push_of_some _ e,aAj a _,⟨_,Heap.get?_push_size _ rfl,rfl,rfl⟩,fun b hb=>?_,q⟩
 have e:b=s1.heap.objs.size:=by simpa using hb
 subst e
 exact I1.fpOk (Nat.le_refl _) (I1.hok.fresh (Nat.le_refl _))
theorem aAk{l:Expr}{tl:TE}(hl:PE X l tl):PI X tg l (iTup X.K tl):=by
 intro pins s σ H R I h
 refine thn (hl pins s σ H _ I h) fun v s1 ⟨x,H1,I1,r1,q1⟩=>?_
 obtain⟨a,e,⟨xs,hq⟩,q⟩:=q1
 subst e
 cases r1
 obtain⟨its,rv,p,hz⟩:=I1.tuple hq
 refine wpAny_pyIter_tuple (show s1.heap.IsTuple a its.toArray from p) ?_
 refine⟨s1.heap.objs.size,[s1.heap.objs.size],_,_,H1,rfl,I1.kept (t':=s1.toks) fun b o e=>Heap.get?_push_of_some _ e,xV a _,⟨_,Heap.get?_push_size _ rfl,rfl,rfl⟩,fun b hb=>?_,q⟩
 have e:b=s1.heap.objs.size:=by simpa using hb
 subst e
 exact I1.fpOk (Nat.le_refl _) (I1.hok.fresh (Nat.le_refl _))
theorem rV{pins:List (Addr×Obj)}{σ:St}{H:Hp}{s:Shared}{R:It→Hp→Prop}{E:Value→Shared→Prop}{lo hi:Int}{t u v:Tok}{tk:Nat}(I:Inv X pins σ H s)(h1:-(2 ^ 62)≤lo)(h2:lo<2 ^ 62)(h3:-(2 ^ 62)≤hi)(h4:hi<2 ^ 62)(q:R (Itr lo (hi-lo).toNat) H):wpAny (model X.prog X.w) X.A (pyIter (.ref s.heap.objs.size)) (PIE X pins σ tg R) E { s with heap:=s.heap.push { cls:=.type "range",data:=.fields #[.int lo t,.int hi u,.int 1 v] },toks:=tk }:=by
 refine wpAny_pyIter_range (IsRange.new ..) (small_one h1 h2 h3 h4) ?_
 have I1:Inv X pins σ H { s with heap:=s.heap.push { cls:=.type "range",data:=.fields #[.int lo t,.int hi u,.int 1 v] },toks:=tk }:=I.kept fun b o e=>Heap.get?_push_of_some _ e
 refine⟨(s.heap.push { cls:=.type "range",data:=.fields #[.int lo t,.int hi u,.int 1 v] }).objs.size,[(s.heap.push { cls:=.type "range",data:=.fields #[.int lo t,.int hi u,.int 1 v] }).objs.size],_,_,H,rfl,
  I1.kept (t':=tk) fun b o e=>Heap.get?_push_of_some _ e,xW _ lo (hi-lo).toNat,?_,fun b hb=>?_,q⟩
 ·have e1:lo+((0:Nat):Int)*1=lo:=by simp
  have e2:(((hi-lo).toNat:Nat):Int)-((0:Nat):Int)=Builtin.Range.rangeSize lo hi 1:=by rw[rangeSize_one];split <;> lia
  show IsRangeIter _ _ (lo+((0:Nat):Int)*1) ((((hi-lo).toNat:Nat):Int)-((0:Nat):Int)) 1
  rw[e1,e2]
  exact Heap.get?_push_size _ rfl
 ·have e:b=(s.heap.push { cls:=.type "range",data:=.fields #[.int lo t,.int hi u,.int 1 v] }).objs.size:=by simpa using hb
  subst e
  exact I1.fpOk (Nat.le_refl _) (I1.hok.fresh (Nat.le_refl _))
def aEE(ta:TA):TI:=fun σ H R=>ta σ H fun vs H1=>∃j:Int,vs=[.int j]∧-(2 ^ 62)≤j∧j<2 ^ 62∧R (Itr 0 j.toNat) H1
def aEF(ta:TA):TI:=fun σ H R=>ta σ H fun vs H1=>∃i j:Int,vs=[.int i,.int j]∧(-(2 ^ 62)≤i∧i<2 ^ 62∧-(2 ^ 62)≤j∧j<2 ^ 62)∧R (Itr i (j-i).toNat) H1
theorem bT{a:Expr}{ta:TA}{p pos:Pos}(hg:Gl X "range")(hm:X.mg "range"=none)(ha:PA X [a] ta)(hs:starEach [a] X.env=[(false,eval a X.env)]:=by rfl):PI X tg (.Call (.Name "range" p) [a] [] pos) (aEE ta):=by
 intro pins s σ H R I h
 refine Call_ (fF I hg hm boot_range (PyProof.Rows.callWith_type1 (thn (ha pos pins s σ H _ I h) fun us s1 ⟨vs,H1,I1,r1,q1⟩=>?_) hs rfl))
 obtain⟨j,e,q1,q2,q⟩:=q1
 subst e
 cases r1 with
 |cons r rr=>
  cases rr
  obtain⟨t,rfl⟩:=r
  exact call_range_1 (rV I1 (by lia) (by lia) q1 q2 (by simpa using q))
theorem kL{a b:Expr}{ta:TA}{p pos:Pos}(hg:Gl X "range")(hm:X.mg "range"=none)(ha:PA X [a,b] ta)(hs:starEach [a,b] X.env=[(false,eval a X.env),(false,eval b X.env)]:=by rfl)(hs2:starEach [b] X.env=[(false,eval b X.env)]:=by rfl):
  PI X tg (.Call (.Name "range" p) [a,b] [] pos) (aEF ta):=by
 intro pins s σ H R I h
 refine Call_ (fF I hg hm boot_range (PyProof.Rows.callWith_type1 (thn (ha pos pins s σ H _ I h) fun us s1 ⟨vs,H1,I1,r1,q1⟩=>?_) (by rw[hs,hs2]) (by rw[hs2];rfl)))
 obtain⟨i,j,e,⟨q1,q2,q3,q4⟩,q⟩:=q1
 subst e
 cases r1 with
 |cons r rr=>
  cases rr with
  |cons r' rr=>
   cases rr
   obtain⟨t,rfl⟩:=r
   obtain⟨t',rfl⟩:=r'
   exact call_range_2 (rV I1 q1 q2 q3 q4 q)
def tFor(wi:TI)(g:TG)(tb:TS):TS:=fun D σ H=>wi σ H fun J H1=>∃W:Nat→Nat→St→Hp→Prop,(∃m,W 0 m σ H1)∧∀i m σ H,W i m σ H→
 (J.stop i H∧D.nx σ H)∨(J.go i H∧∃N:St→Hp→Prop,(∀σ' H',N σ' H'→∃m',m'<m∧W (i+1) m' σ' H')∧∀x H',J.yld i H x H'→g x σ H' fun σ2 H2=>tb { D with nx:=N,ct:=N,bk:=D.nx } σ2 H2)
def kM(fp:List Addr)(h:Heap):List (Addr×Obj):=fp.filterMap fun b=>(h.get? b).map fun o=>(b,o)
theorem hV{fp:List Addr}{h:Heap}{b:Addr}{o:Obj}(hb:b∈fp)(e:h.get? b=some o):(b,o)∈kM fp h:=List.mem_filterMap.mpr ⟨b,hb,by rw[e];rfl⟩
theorem aAl{fp:List Addr}{h:Heap}{p:Addr×Obj}(hp:p∈kM fp h):p.1∈fp∧h.get? p.1=some p.2:=by
 obtain⟨b,hb,e⟩:=List.mem_filterMap.mp hp
 cases q:h.get? b with
 |none=>rw[q] at e;cases e
 |some o=>
  rw[q] at e
  have e':(b,o)=p:=Option.some.inj e
  subst e'
  exact⟨hb,q⟩
theorem Inv.pinned{pins:List (Addr×Obj)}{σ:St}{H:Hp}{s:Shared}{fp:List Addr}(I:Inv X pins σ H s)(hf:∀b∈fp,FpOk X pins H b)(ho:∀b∈fp,∃o,s.heap.get? b=some o∧∀v,o.data≠.cell v):Inv X (pins++kM fp s.heap) σ H s:=
 I.pins_of fun p hp=>(List.mem_append.mp hp).elim (fun z=>I.pin p (List.mem_append_right _ z)) fun z=>by
  obtain⟨hb,e⟩:=aAl z
  obtain⟨f0,f1,f2,_⟩:=hf p.1 hb
  obtain⟨o,e',d⟩:=ho p.1 hb
  rw[e] at e';cases e'
  exact⟨e,f0,f1,f2,d⟩
theorem Inv.unpinned{pins pl:List (Addr×Obj)}{σ:St}{H:Hp}{s:Shared}(I:Inv X (pins++pl) σ H s):Inv X pins σ H s:=I.pins_of fun p hp=>I.pin p (List.mem_append_right _ (List.mem_append_left _ hp))
theorem cH{iter:Expr}{body:List Stmt}{wi:TI}{g:TG}{tb:TS}{pos:Pos}(hp:PassesOwn (model X.prog X.w) X.A X.env X.xe)(hc:X.calm=true)(hi:PI X tg iter wi)(hg:PG X tg g)(hb:PSs X body tb)(hs:∀x,foldedSetIterable iter X.env x=pure x:=by intro _;rfl):PS X (.For tg iter body [] pos) (tFor wi g tb):=by
 intro pins s σ H D I h
 refine wpAny_For (thn (hi pins s σ H _ I h) fun v s1 h1=>thn h1 fun itv s2 h2=>?_) hs
 obtain⟨it,fp,tn,J,H2,e,I2,T,st2,f2,W,⟨m0,w0⟩,turn⟩:=h2
 subst e
 have stat:∀ {H':Hp},(∀b∈fp,H' b=none)→∀b∈fp,FpOk X pins H' b:=fun hn b hb=>⟨hn b hb,(f2 b hb).2⟩
 refine codeAny_forLoop_any (fun n s'=>∃i σ' H',Inv X pins σ' H' s'∧tn i s'.heap∧(∀b∈fp,H' b=none)∧W i n σ' H') ?_ m0 ⟨0,σ,H2,I2,st2,fun b hb=>(f2 b hb).1,w0⟩
 rintro n s3 ⟨i,σ3,H3,I3,st3,fr3,w3⟩
 rcases turn i n σ3 H3 w3 with ⟨stop,qn⟩|⟨go,N,hN,step⟩
 ·refine wpAny_passesOwn hp (thn (T.done X rfl rfl rfl hc i pins s3 σ3 H3 X.xe I3 (stat fr3) st3 stop) fun r s4 ⟨hr,I4⟩=>?_)
  subst hr
  exact wpAny_execs_nil ⟨σ3,H3,I4,qn⟩
 ·refine wpAny_passesOwn hp (thn (T.item X rfl rfl rfl hc i pins s3 σ3 H3 X.xe I3 (stat fr3) st3 go) fun r s4 ⟨u,hr,h4⟩=>?_)
  subst hr
  refine wpAny_passesOwn hp (thn h4 fun _ s5 ⟨x,H5,I5,r5,y5,st5,fr5⟩=>?_)
  have I5':=I5.pinned (stat fr5) (T.obj _ _ st5)
  refine wpAny_passesOwn hp (thn (hg _ s5 σ3 H5 x u _ I5' r5 (step x H5 y5)) fun _ s6 ⟨σ6,H6,I6,q6⟩=>?_)
  refine wpAny_passesOwn hp (thn (hb _ s6 σ6 H6 _ I6 q6) fun f s7 q7=>?_)
  have again:∀ {σ7:St} {H7:Hp},Inv X (pins++kM fp s5.heap) σ7 H7 s7→N σ7 H7→∃m,m<n∧∃i σ' H',Inv X pins σ' H' s7∧tn i s7.heap∧(∀b∈fp,H' b=none)∧W i m σ' H':=fun {σ7 H7} I7 n7=>by
   obtain⟨m',hm,w7⟩:=hN σ7 H7 n7
   refine⟨m',hm,i+1,σ7,H7,I7.unpinned,T.keep _ _ _ st5 fun b hb o e=>(I7.pin (b,o) (List.mem_append_right _ (List.mem_append_right _ (hV hb e)))).1,fun b hb=>?_,w7⟩
   obtain⟨o,e,d⟩:=T.obj _ _ st5 b hb
   exact(I7.pin (b,o) (List.mem_append_right _ (List.mem_append_right _ (hV hb e)))).2.1
  cases f with
  |next=>obtain⟨σ7,H7,I7,n7⟩:=q7;exact again I7 n7
  |cont=>obtain⟨σ7,H7,I7,n7⟩:=q7;exact again I7 n7
  |brk=>obtain⟨σ7,H7,I7,q7⟩:=q7;exact⟨σ7,H7,I7.unpinned,q7⟩
  |ret v=>obtain⟨x7,σ7,H7,I7,r7,q7⟩:=q7;exact⟨x7,σ7,H7,I7.unpinned,r7,q7⟩
end
theorem dN{K:PySem.W.Frag}{a:Addr}{xs:List V}{g:TG}{tb:TS}{D:Ends}{σ:St}{H:Hp}(Pv:Nat→St→Hp→Prop)(h0:Pv 0 σ H)(hl:∀i σ H,i≤xs.length→Pv i σ H→SqL K H a xs)(hs:∀i x σ H,xs[i]?=some x→Pv i σ H→g x σ H fun σ2 H2=>tb { D with nx:=Pv (i+1),ct:=Pv (i+1),bk:=D.nx } σ2 H2)(hd:∀σ H,Pv xs.length σ H→D.nx σ H):
  ∃W:Nat→Nat→St→Hp→Prop,(∃m,W 0 m σ H)∧∀i m σ H,W i m σ H→
   ((Itl K a).stop i H∧D.nx σ H)∨((Itl K a).go i H∧∃N:St→Hp→Prop,(∀σ' H',N σ' H'→∃m',m'<m∧W (i+1) m' σ' H')∧∀x H',(Itl K a).yld i H x H'→g x σ H' fun σ2 H2=>tb { D with nx:=N,ct:=N,bk:=D.nx } σ2 H2):=by
 refine⟨fun i m σ H=>m=xs.length-i∧i≤xs.length∧Pv i σ H,⟨xs.length,by simp,Nat.zero_le _,h0⟩,?_⟩
 rintro i m σ H ⟨rfl,hi,p⟩
 have q:=hl i σ H hi p
 by_cases hlt:i<xs.length
 ·refine .inr ⟨⟨xs,xs[i],q,by simp[hlt]⟩,Pv (i+1),fun σ' H' p'=>⟨xs.length-(i+1),by lia,rfl,hlt,p'⟩,fun x H' y=>?_⟩
  obtain⟨e,y⟩:=y
  subst e
  exact hs i x σ _ (y xs q) p
 ·have e:i=xs.length:=by lia
  subst e
  exact .inl ⟨⟨xs,q,Nat.le_refl _⟩,hd σ H p⟩
theorem cR{lo:Int}{n:Nat}{g:TG}{tb:TS}{D:Ends}{σ:St}{H:Hp}(Pv:Nat→St→Hp→Prop)(h0:Pv 0 σ H)(hs:∀i σ H,i<n→Pv i σ H→g (.int (lo+i)) σ H fun σ2 H2=>tb { D with nx:=Pv (i+1),ct:=Pv (i+1),bk:=D.nx } σ2 H2)(hd:∀σ H,Pv n σ H→D.nx σ H):
  ∃W:Nat→Nat→St→Hp→Prop,(∃m,W 0 m σ H)∧∀i m σ H,W i m σ H→
   ((Itr lo n).stop i H∧D.nx σ H)∨((Itr lo n).go i H∧∃N:St→Hp→Prop,(∀σ' H',N σ' H'→∃m',m'<m∧W (i+1) m' σ' H')∧∀x H',(Itr lo n).yld i H x H'→g x σ H' fun σ2 H2=>tb { D with nx:=N,ct:=N,bk:=D.nx } σ2 H2):=by
 refine⟨fun i m σ H=>m=n-i∧i≤n∧Pv i σ H,⟨n,by simp,Nat.zero_le _,h0⟩,?_⟩
 rintro i m σ H ⟨rfl,hi,p⟩
 by_cases hlt:i<n
 ·refine .inr ⟨hlt,Pv (i+1),fun σ' H' p'=>⟨n-(i+1),by lia,rfl,hlt,p'⟩,fun x H' y=>?_⟩
  obtain⟨e,y⟩:=y
  subst e y
  exact hs i σ _ hlt p
 ·have e:i=n:=by lia
  subst e
  exact .inl ⟨Nat.le_refl _,hd σ H p⟩
theorem rW{c:TT}{tb:TS}{D:Ends}{σ:St}{H:Hp}(Pv:St→Hp→Prop)(μ:St→Hp→Nat)(h0:Pv σ H)(hs:∀σ H,Pv σ H→c σ H fun b H1=>if b=true then tb { D with nx:=fun σ' H'=>Pv σ' H'∧μ σ' H'<μ σ H,ct:=fun σ' H'=>Pv σ' H'∧μ σ' H'<μ σ H,bk:=D.nx } σ H1 else D.nx σ H1)(mono:∀σ H Q Q',(∀b H1,Q b H1→Q' b H1)→c σ H Q→c σ H Q'):aAi c tb D σ H:=by
 refine⟨fun m σ H=>m=μ σ H∧Pv σ H,⟨_,rfl,h0⟩,?_⟩
 rintro m σ H ⟨rfl,p⟩
 refine mono σ H _ _ (fun b H1 q=>?_) (hs σ H p)
 cases b with
 |true=>exact⟨_,fun σ' H' ⟨p',l⟩=>⟨_,l,rfl,p'⟩,q⟩
 |false=>exact q
end L2
namespace L2
open PySem PySem.Spec PyProof.Rows
abbrev R2:=V→V→Hp→VK→Prop
def OpR(X:Cx)(f:Value→Value→Sem Value)(r:R2):Prop:=
 ∀ (pins:List (Addr×Obj)) (s:Shared) (σ:St) (H:Hp) (x y:V) (v u:Value) (Q:VK),Inv X pins σ H s→RelV x v→RelV y u→r x y H Q→
  wpAny (model X.prog X.w) X.A (f v u) (EP X pins σ Q) X.xe s
def UnR(X:Cx)(f:Value→Sem Value)(r:V→Hp→VK→Prop):Prop:=
 ∀ (pins:List (Addr×Obj)) (s:Shared) (σ:St) (H:Hp) (x:V) (v:Value) (Q:VK),Inv X pins σ H s→RelV x v→r x H Q→
  wpAny (model X.prog X.w) X.A (f v) (EP X pins σ Q) X.xe s
def cU(X:Cx)(f:Value)(r:List V→Hp→VK→Prop):Prop:=
 ∀ (pins:List (Addr×Obj)) (s:Shared) (σ:St) (H:Hp) (xs:List V) (us:List Value) (Q:VK),Inv X pins σ H s→Vals xs us→r xs H Q→
  wpAny (model X.prog X.w) X.A (call f us) (EP X pins σ Q) X.xe s
def tOp(r:R2)(ta tb:TE):TE:=fun σ H Q=>ta σ H fun x H1=>tb σ H1 fun y H2=>r x y H2 Q
def tUn(r:V→Hp→VK→Prop)(ta:TE):TE:=fun σ H Q=>ta σ H fun x H1=>r x H1 Q
def rI(C:Int→Int→Prop)(g:Int→Int→V):R2:=fun x y H Q=>∃i j,x=.int i∧y=.int j∧C i j∧Q (g i j) H
def rI0(g:Int→Int→V):R2:=fun x y H Q=>∃i j,x=.int i∧y=.int j∧Q (g i j) H
def rU(g:Int→V):V→Hp→VK→Prop:=fun x H Q=>∃i,x=.int i∧Q (g i) H
section
variable {X:Cx} {a b c:Expr} {ta tb tc:TE} {pos:Pos}
theorem binT(ha:PE X a ta)(hb:PE X b tb){pins:List (Addr×Obj)}{s:Shared}{σ:St}{H:Hp}{R:V→V→Hp→Prop}(I:Inv X pins σ H s)(h:ta σ H fun x H1=>tb σ H1 fun y H2=>R x y H2){Q:Value→Shared→Prop}{f:Value→Value→Sem Value}(hf:∀v u s2 x y H2,Inv X pins σ H2 s2→RelV x v→RelV y u→R x y H2→wpAny (model X.prog X.w) X.A (f v u) Q X.xe s2):
  wpAny (model X.prog X.w) X.A (eval a X.env) (fun v s₁=>wpAny (model X.prog X.w) X.A (eval b X.env) (fun u s₂=>wpAny (model X.prog X.w) X.A (f v u) Q X.xe s₂) X.xe s₁) X.xe s:=by
 refine thn (ha pins s σ H _ I h) fun v s1 ⟨x,H1,I1,r1,q1⟩=>?_
 refine thn (hb pins s1 σ H1 _ I1 q1) fun u s2 ⟨y,H2,I2,r2,q2⟩=>?_
 exact hf v u s2 x y H2 I2 r1 r2 q2
theorem aV{op:Operator}{r:R2}(ho:OpR X (binaryOp op) r)(ha:PE X a ta)(hb:PE X b tb):PE X (.BinOp a op b pos) (tOp r ta tb):=by
 intro pins s σ H Q I h
 exact wpAny_BinOp (binT ha hb I h fun v u s2 x y H2 I2 rx ry q=>ho pins s2 σ H2 x y v u Q I2 rx ry q)
theorem xX{op:UnaryOp}{r:V→Hp→VK→Prop}(ho:UnR X (unaryOp op) r)(ha:PE X a ta):PE X (.UnaryOp op a pos) (tUn r ta):=by
 intro pins s σ H Q I h
 exact UnaryOp_ (thn (ha pins s σ H _ I h) fun v s1 ⟨x,H1,I1,r1,q1⟩=>ho pins s1 σ H1 x v Q I1 r1 q1)
theorem opI{f:Value→Value→Sem Value}{C:Int→Int→Prop}{g:Int→Int→Int}(rule:∀ (i j:Int) (t u:Tok) (s:Shared) (Q:Value→Shared→Prop) (E:Value→Shared→Prop),C i j→Q (.int (g i j) s.toks) { s with toks:=s.toks+1 }→wpAny (model X.prog X.w) X.A (f (.int i t) (.int j u)) Q E s):
  OpR X f (rI C fun i j=>.int (g i j)):=by
 intro pins s σ H x y v u Q I rx ry h
 obtain⟨i,j,rfl,rfl,hc,q⟩:=h
 obtain⟨t,rfl⟩:=rx
 obtain⟨t',rfl⟩:=ry
 exact rule i j t t' s _ _ hc ⟨.int (g i j),H,I.tok _,⟨_,rfl⟩,q⟩
theorem opI0{f:Value→Value→Sem Value}{g:Int→Int→Int}(rule:∀ (i j:Int) (t u:Tok) (s:Shared) (Q:Value→Shared→Prop) (E:Value→Shared→Prop),Q (.int (g i j) s.toks) { s with toks:=s.toks+1 }→wpAny (model X.prog X.w) X.A (f (.int i t) (.int j u)) Q E s):
  OpR X f (rI0 fun i j=>.int (g i j)):=by
 intro pins s σ H x y v u Q I rx ry h
 obtain⟨i,j,rfl,rfl,q⟩:=h
 obtain⟨t,rfl⟩:=rx
 obtain⟨t',rfl⟩:=ry
 exact rule i j t t' s _ _ ⟨.int (g i j),H,I.tok _,⟨_,rfl⟩,q⟩
theorem opB0{f:Value→Value→Sem Value}{g:Int→Int→Bool}(rule:∀ (i j:Int) (t u:Tok) (s:Shared) (Q:Value→Shared→Prop) (E:Value→Shared→Prop),Q (.bool (g i j)) s→wpAny (model X.prog X.w) X.A (f (.int i t) (.int j u)) Q E s):
  OpR X f (rI0 fun i j=>.bl (g i j)):=by
 intro pins s σ H x y v u Q I rx ry h
 obtain⟨i,j,rfl,rfl,q⟩:=h
 obtain⟨t,rfl⟩:=rx
 obtain⟨t',rfl⟩:=ry
 exact rule i j t t' s _ _ ⟨.bl (g i j),H,I,rfl,q⟩
def CDiv(i j:Int):Prop:=0<j∧j<1073741824
def CPow(i j:Int):Prop:=0≤j∧j≤1000000∧i.natAbs<2 ^ 64
def CMul(i j:Int):Prop:=(-(2 ^ 64)<i∧i<2 ^ 64)∨(-(2 ^ 64)<j∧j<2 ^ 64)
theorem CMul.ok{i j:Int}(h:CMul i j):IntMulOk i j:=by
 rcases h with ⟨h1,h2⟩|⟨h1,h2⟩
 ·exact .of_left (intBits_le_64 h1 h2)
 ·exact .of_right (intBits_le_64 h1 h2)
theorem cD:OpR X (binaryOp .Add) (rI0 fun i j=>.int (i+j)):=opI0 fun _ _ _ _ _ _ _ q=>add_int q
theorem gU:OpR X (binaryOp .Sub) (rI0 fun i j=>.int (i-j)):=opI0 fun _ _ _ _ _ _ _ q=>sub_int q
theorem iK:OpR X (binaryOp .Mult) (rI CMul fun i j=>.int (i*j)):=opI fun _ _ _ _ _ _ _ hc q=>mul_int q hc.ok
theorem oY:OpR X (binaryOp .FloorDiv) (rI CDiv fun i j=>.int (i / j)):=opI fun i j _ _ _ _ _ hc q=>by
 have h1:(0:Int)<j:=hc.1
 have h2:j<1073741824:=hc.2
 exact floordiv_int (by lia) (by rw[Int.fdiv_eq_ediv_of_nonneg i (by lia)];exact q) (.inl (PyProof.noPylong_small (by lia)))
theorem fK:OpR X (binaryOp .Mod) (rI (fun _ j=>0<j) fun i j=>.int (i % j)):=opI fun i j _ _ _ _ _ hc q=>by
 have h1:(0:Int)<j:=hc
 exact mod_int' (by lia) (by rw[Int.fmod_eq_emod_of_nonneg i (by lia)];exact q)
theorem aAm:OpR X (binaryOp .Pow) (rI CPow fun i j=>.int (i ^ j.toNat)):=opI fun _ _ _ _ _ _ _ hc q=>pow_int_small hc.1 hc.2.1 hc.2.2 q
theorem unI{f:Value→Sem Value}{g:Int→Int}(rule:∀ (i:Int) (t:Tok) (s:Shared) (Q:Value→Shared→Prop) (E:Value→Shared→Prop),Q (.int (g i) s.toks) { s with toks:=s.toks+1 }→wpAny (model X.prog X.w) X.A (f (.int i t)) Q E s):
  UnR X f (rU fun i=>.int (g i)):=by
 intro pins s σ H x v Q I rx h
 obtain⟨i,rfl,q⟩:=h
 obtain⟨t,rfl⟩:=rx
 exact rule i t s _ _ ⟨.int (g i),H,I.tok _,⟨_,rfl⟩,q⟩
theorem rX:UnR X (unaryOp .USub) (rU fun i=>.int (-i)):=unI fun _ _ _ _ _ q=>neg_int q
end
def scal:V→V→Bool
 |.non,.non=>true|.non,.int _=>true|.int _,.non=>true|.non,.bl _=>true|.bl _,.non=>true|.non,.str _=>true|.str _,.non=>true
 |.int _,.int _=>true|.bl _,.bl _=>true|.str _,.str _=>true|.byt _,.byt _=>true
 |.int _,.str _=>true|.str _,.int _=>true|.bl _,.str _=>true|.str _,.bl _=>true
 |_,_=>false
def rEq:R2:=fun x y H Q=>scal x y=true∧Q (.bl (decide (x=y))) H
def rNe:R2:=fun x y H Q=>scal x y=true∧Q (.bl (!decide (x=y))) H
theorem wC{i j:Int}:decide (V.int i=V.int j)=(i==j):=by
 rw[Bool.eq_iff_iff]
 simp
theorem aAn{i j:Bool}:decide (V.bl i=V.bl j)=(i==j):=by
 rw[Bool.eq_iff_iff]
 simp
theorem wD{i j:Str}:decide (V.str i=V.str j)=(i==j):=by
 rw[Bool.eq_iff_iff]
 simp
theorem wE{i j:Array UInt8}:decide (V.byt i=V.byt j)=(i.toList==j.toList):=by
 rw[Bool.eq_iff_iff]
 cases i
 cases j
 simp
section
variable {X:Cx} {a b c:Expr} {ta tb tc:TE} {pos:Pos}
theorem bF{pins:List (Addr×Obj)}{σ:St}{H:Hp}{s:Shared}{Q:VK}{k k':Bool}(I:Inv X pins σ H s)(q:Q (.bl k) H)(e:k=k'):EP X pins σ Q (.bool k') s:=by
 subst e
 exact⟨.bl k,H,I,rfl,q⟩
theorem dX:OpR X (compareOp .Eq) rEq:=by
 intro pins s σ H x y v u Q I rx ry h
 obtain⟨hs,q⟩:=h
 cases x with
 |non=>
  cases rx
  cases y with
  |non=>cases ry;exact PySem.EqNone.eq_none_none (bF I q (by simp))
  |bl j=>cases ry;exact PySem.EqNone.eq_none_bool (bF I q (by simp))
  |int j=>obtain⟨t',rfl⟩:=ry;exact PySem.EqNone.eq_none_int (bF I q (by simp))
  |str j=>obtain⟨t',rfl⟩:=ry;exact PySem.EqNone.eq_none_str (bF I q (by simp))
  |_=>exact absurd (show false=true from hs) Bool.false_ne_true
 |bl i=>
  cases rx
  cases y with
  |non=>cases ry;exact PySem.EqNone.eq_bool_none (bF I q (by simp))
  |bl j=>cases ry;exact eq_bool (bF I q aAn)
  |str j=>obtain⟨t',rfl⟩:=ry;exact PySem.EqMixed.eq_bool_str (bF I q (by simp))
  |_=>exact absurd (show false=true from hs) Bool.false_ne_true
 |int i=>
  obtain⟨t,rfl⟩:=rx
  cases y with
  |non=>cases ry;exact PySem.EqNone.eq_int_none (bF I q (by simp))
  |int j=>obtain⟨t',rfl⟩:=ry;exact eq_int (bF I q wC)
  |str j=>obtain⟨t',rfl⟩:=ry;exact PySem.EqMixed.eq_int_str (bF I q (by simp))
  |_=>exact absurd (show false=true from hs) Bool.false_ne_true
 |str i=>
  obtain⟨t,rfl⟩:=rx
  cases y with
  |non=>cases ry;exact PySem.EqNone.eq_str_none (bF I q (by simp))
  |bl j=>cases ry;exact PySem.EqMixed.eq_str_bool (bF I q (by simp))
  |int j=>obtain⟨t',rfl⟩:=ry;exact PySem.EqMixed.eq_str_int (bF I q (by simp))
  |str j=>obtain⟨t',rfl⟩:=ry;exact eq_str (bF I q wD)
  |_=>exact absurd (show false=true from hs) Bool.false_ne_true
 |byt i=>
  obtain⟨t,rfl⟩:=rx
  cases y with
  |byt j=>obtain⟨t',rfl⟩:=ry;exact PySem.W.eq_bytes (bF I q wE)
  |_=>exact absurd (show false=true from hs) Bool.false_ne_true
 |_=>cases y <;> exact absurd (show false=true from hs) Bool.false_ne_true
theorem rD:OpR X (compareOp .NotEq) rNe:=by
 intro pins s σ H x y v u Q I rx ry h
 obtain⟨hs,q⟩:=h
 cases x with
 |non=>
  cases rx
  cases y with
  |non=>cases ry;exact PySem.EqNone.ne_none_none (bF I q (by simp))
  |bl j=>cases ry;exact PySem.EqNone.ne_none_bool (bF I q (by simp))
  |int j=>obtain⟨t',rfl⟩:=ry;exact PySem.EqNone.ne_none_int (bF I q (by simp))
  |str j=>obtain⟨t',rfl⟩:=ry;exact PySem.EqNone.ne_none_str (bF I q (by simp))
  |_=>exact absurd (show false=true from hs) Bool.false_ne_true
 |bl i=>
  cases rx
  cases y with
  |non=>cases ry;exact PySem.EqNone.ne_bool_none (bF I q (by simp))
  |bl j=>cases ry;exact ne_bool (bF I q (congrArg not aAn))
  |str j=>obtain⟨t',rfl⟩:=ry;exact PySem.EqMixed.ne_bool_str (bF I q (by simp))
  |_=>exact absurd (show false=true from hs) Bool.false_ne_true
 |int i=>
  obtain⟨t,rfl⟩:=rx
  cases y with
  |non=>cases ry;exact PySem.EqNone.ne_int_none (bF I q (by simp))
  |int j=>obtain⟨t',rfl⟩:=ry;exact ne_int (bF I q (congrArg not wC))
  |str j=>obtain⟨t',rfl⟩:=ry;exact PySem.EqMixed.ne_int_str (bF I q (by simp))
  |_=>exact absurd (show false=true from hs) Bool.false_ne_true
 |str i=>
  obtain⟨t,rfl⟩:=rx
  cases y with
  |non=>cases ry;exact PySem.EqNone.ne_str_none (bF I q (by simp))
  |bl j=>cases ry;exact PySem.EqMixed.ne_str_bool (bF I q (by simp))
  |int j=>obtain⟨t',rfl⟩:=ry;exact PySem.EqMixed.ne_str_int (bF I q (by simp))
  |str j=>obtain⟨t',rfl⟩:=ry;exact ne_str (bF I q (congrArg not wD))
  |_=>exact absurd (show false=true from hs) Bool.false_ne_true
 |byt i=>
  obtain⟨t,rfl⟩:=rx
  cases y with
  |byt j=>obtain⟨t',rfl⟩:=ry;exact PySem.W.ne_bytes (bF I q (congrArg not wE))
  |_=>exact absurd (show false=true from hs) Bool.false_ne_true
 |_=>cases y <;> exact absurd (show false=true from hs) Bool.false_ne_true
theorem gJ:OpR X (compareOp .Lt) (rI0 fun i j=>.bl (decide (i<j))):=opB0 fun _ _ _ _ _ _ _ q=>lt_int q
theorem aCn:OpR X (compareOp .LtE) (rI0 fun i j=>.bl (decide (i≤j))):=opB0 fun _ _ _ _ _ _ _ q=>le_int q
theorem aCo:OpR X (compareOp .Gt) (rI0 fun i j=>.bl (decide (j<i))):=opB0 fun _ _ _ _ _ _ _ q=>gt_int q
theorem aCp:OpR X (compareOp .GtE) (rI0 fun i j=>.bl (decide (j≤i))):=opB0 fun _ _ _ _ _ _ _ q=>ge_int q
theorem aAo:OpR X (compareOp .Is) (fun x y H Q=>y=.non∧Q (.bl (decide (x=.non))) H):=by
 intro pins s σ H x y v u Q I rx ry h
 obtain⟨rfl,q⟩:=h
 cases ry
 refine is_none_gen (bF I q ?_)
 cases x <;> first
  |(cases rx;rfl)
  |(obtain⟨t,rfl⟩:=rx;rfl)
theorem wF:OpR X (compareOp .IsNot) (fun x y H Q=>y=.non∧Q (.bl (!decide (x=.non))) H):=by
 intro pins s σ H x y v u Q I rx ry h
 obtain⟨rfl,q⟩:=h
 cases ry
 refine isnot_none_gen (bF I q ?_)
 cases x <;> first
  |(cases rx;rfl)
  |(obtain⟨t,rfl⟩:=rx;rfl)
theorem aZ(b:Expr){op:CmpOp}(h:op≠.In:=by decide)(h2:op≠.NotIn:=by decide):behindInMarks op b=false:=by
 have e1:(op==CmpOp.In)=false:=by cases op <;> first|rfl|exact absurd rfl h
 have e2:(op==CmpOp.NotIn)=false:=by cases op <;> first|rfl|exact absurd rfl h2
 cases b <;> simp[behindInMarks,e1,e2]
theorem jI{op:CmpOp}{r:R2}(ho:OpR X (compareOp op) r)(ha:PE X a ta)(hb:PE X b tb)(hm:behindInMarks op b=false):PE X (.Compare a [op] [b] pos) (tOp r ta tb):=by
 intro pins s σ H Q I h
 exact wpAny_Compare1 (binT ha hb I h fun v u s2 x y H2 I2 rx ry q=>ho pins s2 σ H2 x y v u Q I2 rx ry q) hm
def hW(t:TE):TT:=fun σ H Q=>t σ H fun x H'=>∃k,x=.bl k∧Q k H'
theorem aX{op:CmpOp}{r:R2}(ho:OpR X (compareOp op) r)(ha:PE X a ta)(hb:PE X b tb)(hm:behindInMarks op b=false):PT X (.Compare a [op] [b] pos) (hW (tOp r ta tb)):=by
 intro pins s σ H Q I h
 refine wpAny_isTrue_Compare1 (thn (ha pins s σ H _ I h) fun v s1 ⟨x,H1,I1,r1,q1⟩=>thn (hb pins s1 σ H1 _ I1 q1) fun u s2 ⟨y,H2,I2,r2,q2⟩=>
  thn (ho pins s2 σ H2 x y v u _ I2 r1 r2 q2) fun c s3 ⟨z,H3,I3,r3,k,e,q3⟩=>?_) hm
 subst e
 cases r3
 exact wpAny_truthy_bool ⟨H3,I3,q3⟩
def aDW(r r':R2)(ta tb tc:TE):TE:=fun σ H Q=>ta σ H fun x H1=>tb σ H1 fun y H2=>r x y H2 fun z H3=>∃k,z=.bl k∧
 (if k=true then tc σ H3 fun w' H4=>r' y w' H4 Q else Q (.bl false) H3)
theorem aBG{op op':CmpOp}{r r':R2}(ho:OpR X (compareOp op) r)(ho':OpR X (compareOp op') r')(ha:PE X a ta)(hb:PE X b tb)(hc:PE X c tc)(hm:lastMarks [op,op'] [b,c]=false:=by with_unfolding_all rfl):PE X (.Compare a [op,op'] [b,c] pos) (aDW r r' ta tb tc):=by
 intro pins s σ H Q I h
 refine Compare_chain (thn (ha pins s σ H _ I h) fun v s1 ⟨x,H1,I1,r1,q1⟩=>chain_link (thn (hb pins s1 σ H1 _ I1 q1) fun u s2 ⟨y,H2,I2,r2,q2⟩=>
  thn (ho pins s2 σ H2 x y v u _ I2 r1 r2 q2) fun d s3 ⟨z,H3,I3,r3,k,e,q3⟩=>?_)) hm
 subst e
 cases r3
 refine wpAny_truthy_bool ?_
 cases k with
 |false=>exact ite_ff ⟨.bl false,H3,I3,rfl,q3⟩
 |true=>exact ite_tt (chain_last (thn (hc pins s3 σ H3 _ I3 q3) fun w' s4 ⟨z',H4,I4,r4,q4⟩=>ho' pins s4 σ H4 y z' u w' Q I4 r2 r4 q4))
theorem nM:(sizeLine:Nat)<2 ^ 63:=by rw[sizeLine_eq];decide
theorem rE{x:V}{us:List Value}(r:Vals [x] us):∃u,us=[u]∧RelV x u:=by
 cases r with
 |cons r1 r2=>cases r2;exact⟨_,rfl,r1⟩
theorem xY{x y:V}{us:List Value}(r:Vals [x,y] us):∃u w',us=[u,w']∧RelV x u∧RelV y w':=by
 cases r with
 |cons r1 r2=>
  cases r2 with
  |cons r3 r4=>cases r4;exact⟨_,_,rfl,r1,r3⟩
theorem rY:cU X (.builtin "abs") (fun xs H Q=>∃i,xs=[.int i]∧Q (.int (if i<0 then -i else i)) H):=by
 intro pins s σ H xs us Q I r h
 obtain⟨i,rfl,q⟩:=h
 obtain⟨u,rfl,t,rfl⟩:=rE r
 exact call_abs_int fun u tk=>⟨.int (if i<0 then -i else i),H,I.tok _,⟨_,rfl⟩,q⟩
theorem pZ(hc:X.calm=true):cU X (.builtin "max") (fun xs H Q=>∃i j,xs=[.int i,.int j]∧Q (.int (if j > i then j else i)) H):=by
 intro pins s σ H xs us Q I r h
 obtain⟨i,j,rfl,q⟩:=h
 obtain⟨u,w',rfl,⟨t,rfl⟩,⟨t',rfl⟩⟩:=xY r
 refine max_two_ints (I.ok.hd hc) fun h' tk k=>⟨_,H,I.kept k,?_,q⟩
 by_cases hj:j > i
 ·rw[if_pos hj,if_pos hj];exact⟨_,rfl⟩
 ·rw[if_neg hj,if_neg hj];exact⟨_,rfl⟩
theorem kN(hc:X.calm=true):cU X (.builtin "min") (fun xs H Q=>∃i j,xs=[.int i,.int j]∧Q (.int (if j<i then j else i)) H):=by
 intro pins s σ H xs us Q I r h
 obtain⟨i,j,rfl,q⟩:=h
 obtain⟨u,w',rfl,⟨t,rfl⟩,⟨t',rfl⟩⟩:=xY r
 refine min_two_ints (I.ok.hd hc) fun h' tk k=>⟨_,H,I.kept k,?_,q⟩
 by_cases hj:j<i
 ·rw[if_pos hj,if_pos hj];exact⟨_,rfl⟩
 ·rw[if_neg hj,if_neg hj];exact⟨_,rfl⟩
end
end L2
namespace L2
open PySem PySem.Spec PyProof.Rows
structure ObjM(h:Heap)(x dx C:Addr)(mA:Str→Option Value):Prop where
 obj:h.get? x=some (PySem.W.instObj C dx)
 ns:h.Ns1 dx mA
 ne:dx≠x
theorem aAp{h:Heap}{dx:Addr}{mA:Str→Option Value}(n:h.Ns1 dx mA):∃od,h.get? dx=some od∧∀name,PySem.W.lookIn name od=some (mA name):=by
 obtain⟨o,es,ep,ho,hd,hk,_,hm⟩:=n
 refine⟨o,ho,fun name=>?_⟩
 have e:=hm name
 unfold nsFind findBy at e
 rw[← Array.find?_toList] at e
 unfold PySem.W.lookIn
 rw[hd]
 dsimp only
 split
 ·rename_i y q
  rw[q] at e
  exact congrArg some e
 ·rename_i q
  rw[q] at e
  have a:es.toList.any (·.refKey)=false:=by
   rw[List.any_eq_false]
   intro y hy
   obtain⟨z,t,hkey⟩:=hk y (Array.mem_toList_iff.mp hy)
   simp[DictEntry.refKey,hkey]
  have a':¬ es.toList.any (·.refKey)=true:=by rw[a];exact Bool.false_ne_true
  rw[if_neg a']
  exact congrArg some e
theorem ObjM.look{h:Heap}{x dx C:Addr}{mA:Str→Option Value}(I:ObjM h x dx C mA):∃od,PySem.W.InstAt h x (PySem.W.instObj C dx) C (some od)∧∀name,PySem.W.lookIn name od=some (mA name):=
 let ⟨od,ho,hl⟩:=aAp I.ns
 ⟨od,⟨I.obj,rfl,rfl,ho⟩,hl⟩
section
variable {prog:Program} {w:World} {A:Around} {E:Value→Shared→Prop} {s:Shared} {K:PySem.W.Frag} {x dx C f:Addr} {mA:Str→Option Value} {name:Str} {v:Value}
theorem aCG{expr:Bool}{Q:Value→Shared→Prop}(X:K.In s.heap)(I:ObjM s.heap x dx C mA)(hg:PySem.W.plainGet K C name=true)(hh:PySem.W.hasDictIn K C=true)(ha:PySem.W.findIn K (.ref C) name=some none)(hv:mA name=some v)(hv':PySem.W.handedIn v=true)(h:Q v { s with toks:=s.toks+1 }):
  wpAny (model prog w) A (getAttr (.ref x) name expr) Q E s:=by
 obtain⟨od,J,hl⟩:=I.look
 exact PySem.W.get_value X J (PySem.W.plainGet_of hg).1 (PySem.W.findObj_own hh ha rfl (by rw[hl,hv])) hv' h
theorem aBH{pl:Sem Bool}{Q:Value×List Value→Shared→Prop}(X:K.In s.heap)(I:ObjM s.heap x dx C mA)(hg:PySem.W.plainGet K C name=true)(hf:PySem.W.findIn K (.ref C) name=some (some (.ref f)))(ht:PySem.W.isFn K (.ref f)=true)(hv:mA name=none)(h:Q (.ref f,[.ref x]) s):
  wpAny (model prog w) A (getMethod (.ref x) name pl) Q E s:=by
 obtain⟨od,J,hl⟩:=I.look
 exact PySem.W.method_fn X J (PySem.W.plainGet_of hg).1 (PySem.W.plainGet_of hg).2 hf (beq_iff_eq.mp ht) (by show (PySem.W.lookIn name od).map (·.isSome)=some false;rw[hl,hv];rfl) h
theorem aCH{ns:List Str}{Q:Unit→Shared→Prop}(X:K.In s.heap)(I:ObjM s.heap x dx C mA)(hs:PySem.W.findIn K (.ref C) "__setattr__"=some (some (.builtin "object.__setattr__")))(hp:PySem.W.plainOver K C=true)(ht:PySem.W.takerIn K C name=some none)(hh:PySem.W.hasDictIn K C=true)(hw:PySem.Within mA ns)(hsz:ns.length≤sizeLine)(h:∀h',ObjM h' x dx C (fun y=>if y=name then some v else mA y)→Heap.SameBut dx s.heap h'→Q () { s with heap:=h',toks:=s.toks+2 }):
  wpAny (model prog w) A (setAttr (.ref x) name v) Q E s:=by
 obtain⟨od,J,hl⟩:=I.look
 refine PySem.W.set_plain X J hs (PySem.W.osa_open (s:={ s with toks:=s.toks+1 }) (r:=none) X J hp ht fun b=>?_)
 obtain⟨cd,hc,hd'⟩:=PySem.W.any_some hh
 have hx:s.heap.get? x=some ⟨.ref C,some dx,.plain,#[]⟩:=I.obj
 refine wpAny_bind (wpAny_pure (wpAny_bind (wpAny_bind (wpAny_loadPart hx (wpAny_bind (PySem.W.Looks.here (s:={ s with toks:=s.toks+1 }) (PySem.W.looks_clsIn X hc) ?_))))))
 rw[hd']
 refine wpAny_pure (a:=some dx) (wpAny_bind (wpAny_pure (wpAny_bind ?_)))
 refine wpAny_nsSet1 (s:={ s with toks:=s.toks+1 }) I.ns fun h' hn2 hs2=>?_
 obtain⟨oD,esD,epD,hoD,hdD,hcD⟩:=hn2.count (PySem.Within.cons name v hw)
 refine wpAny_bind (wpAny_lookBehind hoD (by rw[hdD];exact pastItsLine_dict (Nat.le_trans hcD (by rw[List.length_cons];lia))) ?_)
 exact wpAny_pure (h _ ⟨(hs2.2 _ (Ne.symm I.ne)).trans I.obj,hn2,I.ne⟩ hs2)
theorem aBI{R:Result→Shared→Prop}{vs:List Value}{kw:List (Str×Value)}(X:K.In s.heap)(hm:PySem.W.makesIn K C=true)(hi:PySem.W.findIn K (.ref C) "__init__"=some (some (.ref f)))(hf:PySem.W.typeIn K (.ref f)=some (.type "function"))(h:codeAny (model prog w) (A.under (.builtin "type.__call__" ⟨.ref C::vs,kw⟩)) (.call (.ref f) ⟨.ref (s.heap.objs.size+1)::vs,kw⟩) (PySem.W.InitBack (s.heap.objs.size+1) R)
   { s with heap:=(s.heap.push PySem.W.emptyDict).push (PySem.W.instObj C s.heap.objs.size) }):
  codeAny (model prog w) A (.call (.ref C) ⟨vs,kw⟩) R s:=by
 obtain⟨hh,g,d,t,os⟩:=s
 exact PySem.W.make_core (PySem.W.makes_of X hm) (PySem.W.looks_findIn X hi) (fun self=>PySem.W.bind_fn X self hf) (.inl rfl) h
theorem aAq{R:Result→Shared→Prop}(X:K.In s.heap)(hm:PySem.W.makesIn K C=true)(hi:PySem.W.findIn K (.ref C) "__init__"=some (some (.builtin "object.__init__")))(hb:∀self,PySem.W.Looks (model prog w) s.heap (bindSpecial (.builtin "object.__init__") self) (.builtin "object.__init__",[self]))(h:codeAny (model prog w) (A.under (.builtin "type.__call__" ⟨[.ref C],[]⟩)) (.call (.builtin "object.__init__") ⟨[.ref (s.heap.objs.size+1)],[]⟩) (PySem.W.InitBack (s.heap.objs.size+1) R)
   { s with heap:=(s.heap.push PySem.W.emptyDict).push (PySem.W.instObj C s.heap.objs.size) }):
  codeAny (model prog w) A (.call (.ref C) ⟨[],[]⟩) R s:=by
 obtain⟨hh,g,d,t,os⟩:=s
 exact PySem.W.make_core (PySem.W.makes_of X hm) (PySem.W.looks_findIn X hi) hb (.inr ⟨rfl,rfl⟩) h
end
def putF(f:Str)(v:V):List (Str×V)→List (Str×V)
 |[]=>[(f,v)]
 |(g,x)::r=>if g=f then (g,v)::r else (g,x)::putF f v r
theorem bQ(f g:Str)(v:V):∀fs:List (Str×V),(putF f v fs).lookup g=if g=f then some v else fs.lookup g
 |[]=>by
  show List.lookup g [(f,v)]=_
  by_cases h:g=f
  ·have hb:(g==f)=true:=beq_iff_eq.mpr h
   simp only[List.lookup,hb,if_pos h]
  ·have hb:(g==f)=false:=beq_eq_false_iff_ne.mpr h
   simp only[List.lookup,hb,if_neg h]
 |(k,x)::r=>by
  have ih:=bQ f g v r
  rw[show putF f v ((k,x)::r)=(if k=f then (k,v)::r else (k,x)::putF f v r) from rfl]
  by_cases hk:k=f
  ·rw[if_pos hk]
   by_cases h:g=k
   ·have hb:(g==k)=true:=beq_iff_eq.mpr h
    simp only[List.lookup,hb,if_pos (h.trans hk)]
   ·have hb:(g==k)=false:=beq_eq_false_iff_ne.mpr h
    simp only[List.lookup,hb,if_neg (fun e:g=f=>h (e.trans hk.symm))]
  ·rw[if_neg hk]
   by_cases h:g=k
   ·have hb:(g==k)=true:=beq_iff_eq.mpr h
    simp only[List.lookup,hb,if_neg (fun e:g=f=>hk (h.symm.trans e))]
   ·have hb:(g==k)=false:=beq_eq_false_iff_ne.mpr h
    simp only[List.lookup,hb]
    exact ih
theorem kO(f:Str)(v:V):∀fs:List (Str×V),f∈(putF f v fs).map (·.1)∧∀g,g∈fs.map (·.1)→g∈(putF f v fs).map (·.1)
 |[]=>⟨by simp[putF],fun g h=>by simp at h⟩
 |(k,x)::r=>by
  obtain⟨i1,i2⟩:=kO f v r
  rw[show putF f v ((k,x)::r)=(if k=f then (k,v)::r else (k,x)::putF f v r) from rfl]
  by_cases hk:k=f
  ·rw[if_pos hk]
   subst hk
   exact⟨by simp,fun g h=>by simpa using h⟩
  ·rw[if_neg hk]
   refine⟨?_,fun g h=>?_⟩
   ·rw[List.map_cons]
    exact List.mem_cons_of_mem _ i1
   ·rw[List.map_cons] at h ⊢
    rcases List.mem_cons.mp h with e|e
    ·exact List.mem_cons.mpr (.inl e)
    ·exact List.mem_cons_of_mem _ (i2 g e)
theorem dO(f:Str)(v:V):∀fs:List (Str×V),(putF f v fs).length≤fs.length+1
 |[]=>by simp[putF]
 |(k,x)::r=>by
  have ih:=dO f v r
  rw[show putF f v ((k,x)::r)=(if k=f then (k,v)::r else (k,x)::putF f v r) from rfl]
  by_cases hk:k=f
  ·rw[if_pos hk,List.length_cons,List.length_cons];lia
  ·rw[if_neg hk,List.length_cons,List.length_cons];lia
theorem RelO.some_of{v:V}{o:Option Value}(r:RelO (some v) o):∃u,o=some u∧RelV v u:=by
 cases o with
 |none=>exact(show False from r).elim
 |some u=>exact⟨u,rfl,r⟩
theorem RelO.none_of{o:Option Value}(r:RelO none o):o=none:=by
 cases o with
 |none=>rfl
 |some u=>exact(show False from r).elim
theorem aAr{v:V}{u:Value}(r:RelV v u):PySem.W.handedIn u=true:=by
 cases v with
 |non=>cases (show u=Value.none from r);rfl
 |bl b=>cases (show u=Value.bool b from r);rfl
 |int i=>obtain⟨t,e⟩:=(show ∃t,u=Value.int i t from r);cases e;rfl
 |str x=>obtain⟨t,e⟩:=(show ∃t,u=Value.str x t from r);cases e;rfl
 |byt b=>obtain⟨t,e⟩:=(show ∃t,u=Value.bytes b t from r);cases e;rfl
 |flt b=>obtain⟨t,e⟩:=(show ∃t,u=Value.float b t from r);cases e;rfl
 |ref a=>cases (show u=Value.ref a from r);rfl
 |ty n=>cases (show u=Value.type n from r);rfl
section
variable {P:Program} {w:World} {H H':Hp} {h h':Heap} {a C dx:Addr} {fs fs':List (Str×V)}
theorem lP(hok:HOk P w H h)(e:H a=some (.ins C dx fs)):∃mA,ObjM h a dx C mA∧(∀f,RelO (fs.lookup f) (mA f))∧PySem.Within mA (fs.map (·.1))∧fs.length≤1000∧H dx=some (.own a):=by
 obtain⟨d,z,ne,ob,mA,n,r,q⟩:=(show bU P w H h a (.ins C dx fs) from hok a _ e)
 exact⟨mA,⟨ob,n,ne⟩,r,q,z,d⟩
end
structure Cls(K:PySem.W.Frag)(C:Addr):Prop where
 pg:PySem.W.plainGet K C Str.empty=true
 hd:PySem.W.hasDictIn K C=true
 po:PySem.W.plainOver K C=true
 sa:PySem.W.findIn K (.ref C) "__setattr__"=some (some (.builtin "object.__setattr__"))
theorem Cls.get{K:PySem.W.Frag}{C:Addr}(c:Cls K C)(f:Str):PySem.W.plainGet K C f=true:=c.pg
def eQ(K:PySem.W.Frag)(C:Addr)(f:Str):Prop:=PySem.W.findIn K (.ref C) f=some none
theorem eQ.taker{K:PySem.W.Frag}{C:Addr}{f:Str}(n:eQ K C f):PySem.W.takerIn K C f=some none:=by
 unfold PySem.W.takerIn
 rw[show PySem.W.findIn K (.ref C) f=some none from n]
 rfl
structure Meth(K:PySem.W.Frag)(C:Addr)(m:Str)(f:Addr):Prop where
 at_:PySem.W.findIn K (.ref C) m=some (some (.ref f))
 fn:PySem.W.isFn K (.ref f)=true
 kp:PySem.W.keepIn K (.ref f)=true
section
variable {X:Cx} {pins:List (Addr×Obj)} {σ:St} {H:Hp} {s:Shared} {a C dx:Addr} {fs:List (Str×V)} {f:Str} {v:V} {A:Around} {E:Value→Shared→Prop}
theorem xZ{b:Bool}{Q:Value→Shared→Prop}(I:Inv X pins σ H s)(e:H a=some (.ins C dx fs))(c:Cls X.K C)(n:eQ X.K C f)(l:fs.lookup f=some v)(h:∀u s',Inv X pins σ H s'→RelV v u→Q u s'):wpAny (model X.prog X.w) A (getAttr (.ref a) f b) Q E s:=by
 obtain⟨mA,O,r,_,_,_⟩:=lP I.hok e
 obtain⟨u,hu,ru⟩:=RelO.some_of (v:=v) (o:=mA f) (by rw[← l];exact r f)
 exact aCG I.kIn O (c.get f) c.hd n hu (aAr ru) (h u _ (I.tok _) ru)
theorem yA{m:Str}{g:Addr}{pl:Sem Bool}{Q:Value×List Value→Shared→Prop}(I:Inv X pins σ H s)(e:H a=some (.ins C dx fs))(c:Cls X.K C)(k:Meth X.K C m g)(l:fs.lookup m=none)(h:Q (.ref g,[.ref a]) s):wpAny (model X.prog X.w) A (getMethod (.ref a) m pl) Q E s:=by
 obtain⟨mA,O,r,_,_,_⟩:=lP I.hok e
 have hn:mA m=none:=RelO.none_of (by rw[← l];exact r m)
 exact aBH I.kIn O (c.get m) k.at_ k.fn hn h
theorem yB{y:V}{u:Value}{Q:Unit→Shared→Prop}(I:Inv X pins σ H s)(e:H a=some (.ins C dx fs))(c:Cls X.K C)(n:eQ X.K C f)(hl:fs.length<1000)(ry:RelV y u)(h:∀s',Inv X pins σ (upd H a (.ins C dx (putF f y fs))) s'→Q () s'):wpAny (model X.prog X.w) A (setAttr (.ref a) f u) Q E s:=by
 obtain⟨mA,O,r,wi,_,ho⟩:=lP I.hok e
 have hz:(fs.map (·.1)).length≤sizeLine:=by rw[List.length_map,sizeLine_eq];lia
 refine aCH I.kIn O c.sa c.po n.taker c.hd wi hz fun h' O' sb=>h _ ?_
 have hd:∃o,h'.get? dx=some o:=let ⟨o,_,_,e',_⟩:=O'.ns;⟨o,e'⟩
 refine I.write (x:=a) (e:=dx) (by rw[e];exact True.intro) (.inr ho) (fun b q hb z=>(sb.2 b hb).trans z) hd ?_
 refine⟨by rw[aH O.ne];exact ho,?_,O.ne,O'.obj,_,O'.ns,fun g=>?_,fun g hg=>?_⟩
 ·have:=dO f y fs;lia
 ·show RelO ((putF f y fs).lookup g) (if g=f then some u else mA g)
  rw[bQ]
  by_cases q:g=f
  ·rw[if_pos q,if_pos q];exact ry
  ·rw[if_neg q,if_neg q];exact r g
 ·by_cases q:g=f
  ·rw[q];exact(kO f y fs).1
  ·refine(kO f y fs).2 g (wi g fun z=>hg ?_)
   show (if g=f then some u else mA g)=none
   rw[if_neg q];exact z
theorem Inv.made(I:Inv X pins σ H s):Inv X pins σ (upd (upd H s.heap.objs.size (.own (s.heap.objs.size+1))) (s.heap.objs.size+1) (.ins C s.heap.objs.size []))
  { s with heap:=(s.heap.push PySem.W.emptyDict).push (PySem.W.instObj C s.heap.objs.size) }:=by
 have e1:(s.heap.push PySem.W.emptyDict).get? s.heap.objs.size=some PySem.W.emptyDict:=Heap.get?_push_size s.heap rfl
 have e2:((s.heap.push PySem.W.emptyDict).push (PySem.W.instObj C s.heap.objs.size)).get? (s.heap.objs.size+1)=some (PySem.W.instObj C s.heap.objs.size):=by
  have:=Heap.get?_push_size (s.heap.push PySem.W.emptyDict) (o:=PySem.W.instObj C s.heap.objs.size) rfl
  rwa [Heap.size_push] at this
 have e3:(s.heap.push PySem.W.emptyDict).Ns s.heap.objs.size (fun _=>none):=⟨PySem.W.emptyDict,#[],_,e1,rfl,(fun e he=>absurd he (by simp)),fun _=>rfl⟩
 have I1:=I.laid (a:=s.heap.objs.size) (o:=.own (s.heap.objs.size+1)) (h':=s.heap.push PySem.W.emptyDict) (t':=s.toks) (fun b u q=>Heap.get?_push_of_some _ q) (Nat.le_refl _) ⟨_,e1⟩
 refine I1.laid (a:=s.heap.objs.size+1) (o:=.ins C s.heap.objs.size []) (t':=s.toks) (fun b u q=>Heap.get?_push_of_some _ q) (Nat.le_of_eq (Heap.size_push _ _)) ?_
 have ne:s.heap.objs.size≠s.heap.objs.size+1:=Nat.ne_of_lt (Nat.lt_succ_self _)
 refine⟨by rw[aH ne,aB],Nat.zero_le _,ne,e2,fun _=>none,(Heap.Ns1.of_empty e3).at fun o q=>Heap.get?_push_of_some _ q,fun _=>True.intro,fun y hy=>absurd rfl hy⟩
theorem aCI{prog:Program}{w:World}{env:Env}{e:Expr}{f:Str}{pos:Pos}{s:Shared}{Q:Value→Shared→Prop}(hb:attributeBase e f env (eval e env)=eval e env)(h:wpAny (model prog w) A (eval e env) (fun o s₁=>wpAny (model prog w) A (getAttr o f true) Q E s₁) E s):wpAny (model prog w) A (eval (.Attribute e f pos) env) Q E s:=
 Attribute_any_ h (by rw[arm_eval_Attribute,hb])
end
def tFld(K:PySem.W.Frag)(ta:TE)(f:Str):TE:=fun σ H Q=>ta σ H fun x H1=>∃a C dx fs v,x=.ref a∧H1 a=some (.ins C dx fs)∧Cls K C∧eQ K C f∧fs.lookup f=some v∧Q v H1
def sFld(K:PySem.W.Frag)(ta tv:TE)(f:Str):TS:=fun D σ H=>tv σ H fun y H1=>ta σ H1 fun x H2=>∃a C dx fs,x=.ref a∧H2 a=some (.ins C dx fs)∧Cls K C∧eQ K C f∧fs.length<1000∧
 D.nx σ (upd H2 a (.ins C dx (putF f y fs)))
section
variable {X:Cx} {o e value:Expr} {f:Str} {pos pos' tpos:Pos} {ta tv:TE}
theorem iL(he:PE X e ta)(hb:attributeBase e f X.env (eval e X.env)=eval e X.env):PE X (.Attribute e f pos) (tFld X.K ta f):=by
 intro pins s σ H Q I h
 refine aCI hb (thn (he pins s σ H _ I h) fun u s1 ⟨x,H1,I1,rx,a,C,dx,fs,v,ex,ea,c,n,l,q⟩=>?_)
 subst ex
 obtain rfl:u=Value.ref a:=rx
 exact xZ I1 ea c n l fun u' s2 I2 ru=>⟨v,H1,I2,ru,q⟩
theorem nN(ha:PE X o ta)(hv:PE X value tv)(hs:swapsWith value (some (.Attribute o f pos')) pos.line X.env=pure false):PS X (.Assign [.Attribute o f pos'] value pos) (sFld X.K ta tv f):=by
 intro pins s σ H D I h
 refine plainObj_wpAny_Assign_Attribute (thn (hv pins s σ H _ I h) fun u s1 ⟨y,H1,I1,ry,q⟩=>thn (ha pins s1 σ H1 _ I1 q) fun ov s2 ⟨x,H2,I2,rx,a,C,dx,fs,ex,ea,c,n,l,q2⟩=>?_) hs
 subst ex
 obtain rfl:ov=Value.ref a:=rx
 exact yB I2 ea c n l ry fun s3 I3=>⟨σ,_,I3,q2⟩
end
section
variable {X:Cx} {pins:List (Addr×Obj)} {σ:St} {H:Hp} {s:Shared} {A:Around} {E:Value→Shared→Prop} {Q:Value→Shared→Prop} {c:Value} {b:Bool}
inductive TyOf (K:PySem.W.Frag) (H:Hp):V→Value→Prop where
 |non:TyOf K H .non (.type "NoneType")
 |bl (x:Bool):TyOf K H (.bl x) (.type "bool")
 |int (i:Int):TyOf K H (.int i) (.type "int")
 |str (x:Str):TyOf K H (.str x) (.type "str")
 |flt (x:UInt64):TyOf K H (.flt x) (.type "float")
 |lst {a:Addr} {xs:List V} (e:H a=some (.lst xs)):TyOf K H (.ref a) (.type "list")
 |frz {a:Addr} {o:Obj} {xs:List V} (e:H a=some (.frz o (.lst xs))):TyOf K H (.ref a) (.type "list")
 |tup {a:Addr} {xs:List V} (e:H a=some (.tup xs)):TyOf K H (.ref a) (.type "tuple")
 |dK {a:Addr} {kvs:List (Key×V)} (e:H a=some (.dK kvs)):TyOf K H (.ref a) (.type "dict")
 |dT {a:Addr} {kvs:List (List Key×V)} (e:H a=some (.dT kvs)):TyOf K H (.ref a) (.type "dict")
 |ins {a C dx:Addr} {fs:List (Str×V)} (e:H a=some (.ins C dx fs)) (cl:Cls K C) (ha:PySem.W.findIn K (.ref C) "__class__"=some (some (.builtin "object.__class__")))
   (hn:PySem.W.specialIn K (.builtin "object.__class__") "__get__"=some (some (.builtin "getset_descriptor.__get__"))) (htk:PySem.W.takesIn K (.builtin "object.__class__")=some true)
   (hm:PySem.W.mroIn K C (.type "object")=some true):TyOf K H (.ref a) (.ref C)
theorem qA{x:V}{u t:Value}(I:Inv X pins σ H s)(rx:RelV x u)(ty:TyOf X.K H x t)(e:PySem.W.kitOne X.K t c=some b)(h:∀tk,Q (.bool b) { s with toks:=tk }):
  wpAny (model X.prog X.w) A (call (.builtin "isinstance") [u,c]) Q E s:=by
 cases ty with
 |non=>cases (show u=Value.none from rx);exact PySem.W.kia_one PySem.W.kitx_none I.kIn True.intro e (fun z=>nomatch z) h
 |bl y=>cases (show u=Value.bool y from rx);exact PySem.W.kia_one PySem.W.kitx_bool I.kIn True.intro e (fun z=>nomatch z) h
 |int i=>obtain⟨t,q⟩:=(show ∃t,u=Value.int i t from rx);cases q;exact PySem.W.kia_one PySem.W.kitx_int I.kIn True.intro e (fun z=>nomatch z) h
 |str y=>obtain⟨t,q⟩:=(show ∃t,u=Value.str y t from rx);cases q;exact PySem.W.kia_one PySem.W.kitx_str I.kIn True.intro e (fun z=>nomatch z) h
 |flt y=>obtain⟨t,q⟩:=(show ∃t,u=Value.float y t from rx);cases q;exact PySem.W.kia_one PySem.W.kitx_float I.kIn True.intro e (fun z=>nomatch z) h
 |@lst a xs ea=>
  cases (show u=Value.ref a from rx)
  obtain⟨_,_,n,_,h1⟩:=(show bU X.prog X.w H s.heap a (.lst xs) from I.hok a _ ea)
  exact PySem.W.kia_one PySem.W.kitx_list I.kIn ⟨_,h1,rfl⟩ e (fun z=>nomatch z) h
 |@frz a ob xs ea=>
  cases (show u=Value.ref a from rx)
  obtain⟨_,_,_,n,_,h1⟩:=(show bU X.prog X.w H s.heap a (.frz ob (.lst xs)) from I.hok a _ ea)
  exact PySem.W.kia_one PySem.W.kitx_list I.kIn ⟨_,h1,rfl⟩ e (fun z=>nomatch z) h
 |@tup a xs ea=>
  cases (show u=Value.ref a from rx)
  obtain⟨_,_,_,p⟩:=(show bU X.prog X.w H s.heap a (.tup xs) from I.hok a _ ea)
  obtain⟨o,h1,h2,_⟩:=p
  exact PySem.W.kia_one PySem.W.kitx_tuple I.kIn ⟨o,h1,h2⟩ e (fun z=>nomatch z) h
 |@dK a kvs ea=>
  cases (show u=Value.ref a from rx)
  obtain⟨_,_,vs,_,p⟩:=(show bU X.prog X.w H s.heap a (.dK kvs) from I.hok a _ ea)
  obtain⟨o,es,ep,h1,h2,_⟩:=p
  exact PySem.W.kia_one PySem.W.kitx_dict I.kIn ⟨o,h1,h2.1⟩ e (fun z=>nomatch z) h
 |@dT a kvs ea=>
  cases (show u=Value.ref a from rx)
  obtain⟨_,_,xs,_,o,es,ep,h1,h2,_⟩:=(show bU X.prog X.w H s.heap a (.dT kvs) from I.hok a _ ea)
  exact PySem.W.kia_one PySem.W.kitx_dict I.kIn ⟨o,h1,h2.1⟩ e (fun z=>nomatch z) h
 |@ins a C dx fs ea cl ha hn htk hm=>
  cases (show u=Value.ref a from rx)
  obtain⟨mA,O,_⟩:=lP I.hok ea
  obtain⟨od,J,_⟩:=O.look
  exact PySem.W.kia_one (PySem.W.kitx_own (cl.get _) cl.hd ha hn htk hm) I.kIn J e (fun z=>nomatch z) h
end
end L2
namespace L2
open PySem PySem.Spec PyProof.Rows
structure Room(k:Nat)(A:Around):Prop where
 hd:A.handled=none
 dp:A.depth+3*k+5<recursionLimit
 un:A.units+16*k+200<cLine
 gd:A.guards=some []
theorem Room.mono{j k:Nat}{A:Around}(r:Room k A)(h:j≤k):Room j A:=⟨r.hd,by have:=r.dp;lia,by have:=r.un;lia,r.gd⟩
theorem Room.deeper{k:Nat}{A:Around}(r:Room (k+1) A)(env:Env):Room k (A.deeper env):=
 ⟨r.hd,by have:=r.dp;show A.depth+1+3*k+5<_;lia,by have:=r.un;show A.units+3+16*k+200<_;lia,r.gd⟩
theorem yC{A:Around}{C:Addr}{us:List Value}{kw:List (Str×Value)}:(A.under (.builtin "type.__call__" ⟨.ref C::us,kw⟩)).depth=A.depth+1:=by
 first|rfl|simp[Around.under,Code.weight,Code.isCreation,Code.isGuard,Code.isCaller,Code.frames,Code.isFrame,guardIds]
theorem yD{A:Around}{C:Addr}{us:List Value}{kw:List (Str×Value)}:(A.under (.builtin "type.__call__" ⟨.ref C::us,kw⟩)).units=A.units+1:=by
 first|rfl|simp[Around.under,Code.cUnits,Code.frames,Code.isFrame]
theorem Room.make{k:Nat}{A:Around}(r:Room (k+1) A)(C:Addr)(us:List Value)(kw:List (Str×Value)):Room k (A.under (.builtin "type.__call__" ⟨.ref C::us,kw⟩)):=
 ⟨r.hd,by have:=r.dp;rw[yC];lia,by have:=r.un;rw[yD];lia,r.gd⟩
theorem Room.depth{k:Nat}{A:Around}(r:Room k A):A.depth<recursionLimit:=by have:=r.dp;lia
theorem Room.u{k n:Nat}{A:Around}(r:Room k A)(h:n≤200:=by decide):A.units+n<cLine:=by have:=r.un;lia
def tNil:TA:=fun _ H Q=>Q [] H
def bJ(ta:TE)(tr:TA):TA:=fun σ H Q=>ta σ H fun x H1=>tr σ H1 fun xs H2=>Q (x::xs) H2
section
variable {X:Cx} {e:Expr} {es:List Expr} {te:TE} {t:TA} {pos:Pos}
theorem aD:PA X [] tNil:=fun _ _ _ _ H Q I h=>Calls.spliced_nil ⟨[],H,I,.nil,h⟩
theorem aA(ha:PE X e te)(hr:PA X es t)(hs:starEach (e::es) X.env=(false,eval e X.env)::starEach es X.env:=by rfl):PA X (e::es) (bJ te t):=by
 intro pos pins s σ H Q I h
 rw[hs]
 show wpAny _ _ (spliced ((false,eval e X.env)::backTo pos (starEach es X.env))) _ _ s
 refine Calls.spliced_cons (thn (ha pins s σ H _ I h) fun u s1 ⟨x,H1,I1,r1,q1⟩=>?_)
 exact thn (hr pos pins s1 σ H1 _ I1 q1) fun us s2 ⟨xs,H2,I2,r2,q2⟩=>⟨x::xs,H2,I2,.cons r1 r2,q2⟩
def tTup(t:TA):TE:=fun σ H Q=>t σ H fun xs H1=>xs.length≤sizeLine∧∀p,H1 p=none→Q (.ref p) (upd H1 p (.tup xs))
def tLst(t:TA):TE:=fun σ H Q=>t σ H fun xs H1=>xs.length≤sizeLine∧∀p,H1 p=none→Q (.ref p) (upd H1 p (.lst xs))
theorem bW{x1}(h:PA X es t):PE X (.Tuple es x1 pos) (tTup t):=by
 intro pins s σ H Q I hq
 refine wpAny_Tuple_spliced (thn (h pos pins s σ H _ I hq) fun us s1 ⟨xs,H1,I1,r,z,q⟩=>⟨by rw[← r.length];exact z,?_⟩)
 have hf:H1 s1.heap.objs.size=none:=I1.hok.fresh (Nat.le_refl _)
 refine⟨.ref s1.heap.objs.size,upd H1 s1.heap.objs.size (.tup xs),I1.laid (t':=s1.toks) (fun b u e=>Heap.get?_push_of_some _ e) (Nat.le_refl _) ?_,rfl,q _ hf⟩
 exact⟨z,us,r,⟨_,Heap.get?_push_size _ rfl,rfl,_,rfl,rfl⟩⟩
theorem bY(h:PA X es t):PE X (.List es pos) (tLst t):=by
 intro pins s σ H Q I hq
 refine wpAny_List_spliced (thn (h pos pins s σ H _ I hq) fun us s1 ⟨xs,H1,I1,r,z,q⟩=>⟨by rw[← r.length];exact z,?_⟩)
 have hf:H1 s1.heap.objs.size=none:=I1.hok.fresh (Nat.le_refl _)
 refine⟨.ref s1.heap.objs.size,upd H1 s1.heap.objs.size (.lst xs),I1.laid (t':=s1.toks) (fun b u e=>Heap.get?_push_of_some _ e) (Nat.le_refl _) ?_,rfl,q _ hf⟩
 exact⟨z,us,0,r,Heap.get?_push_size _ rfl⟩
end
abbrev Sp:=List V→Hp→VK→XK→Prop
abbrev CXT:=List Env→Hp→Shared→XK→Value→Shared→Prop
structure Env0(P:Program)(w:World)(K:PySem.W.Frag)(mg:Str→Option Value)(base:Heap)(A:Around)(outer:List Env)(s:Shared)(H:Hp):Prop where
 frames:A.frames=some outer
 mod:Mod K mg base
 bs:∀b o,base.get? b=some o→s.heap.get? b=some o∧H b=none
 bsz:base.objs.size≤s.heap.objs.size
 funs:s.heap.FunFrames base outer
 frf:∀b∈frs outer,H b=none
 hok:HOk P w H s.heap
 bare:AllBare s.gens
def CE(outer:List Env)(P:Program)(w:World)(H:Hp)(s:Shared)(Q:VK)(u:Value)(s':Shared):Prop:=
 ∃v H',s'.os=s.os∧AllBare s'.gens∧Un (frs outer) [] H H' s.heap s'.heap∧HOk P w H' s'.heap∧RelV v u∧Q v H'
def CR(CX:CXT)(outer:List Env)(P:Program)(w:World)(H:Hp)(s:Shared)(Q:VK)(E:XK)(r:Result)(s':Shared):Prop:=
 match r with
 |.ok (.ret u)=>CE outer P w H s Q u s'
 |.ok _=>False
 |.error e=>CX outer H s E e s'
structure FnOk(P:Program)(w:World)(K:PySem.W.Frag)(mg:Str→Option Value)(base:Heap)(CX:CXT)(k:Nat)(f:Addr)(fd:FuncData)(ps:List Str)(sp:Sp):Prop where
 len:∀vs H Q E,sp vs H Q E→vs.length=ps.length
 run:∀ (A:Around) (outer:List Env) (s:Shared) (H:Hp) (args:Args) (us:List Value) (vs:List V) (Q:VK) (E:XK),Room k A→Env0 P w K mg base A outer s H→BindsTo s fd args (ps.zip us)→Vals vs us→sp vs H Q E→
  codeAny (model P w) A (.call (.ref f) args) (CR CX outer P w H s Q E) s
theorem Env0.make{P:Program}{w:World}{K:PySem.W.Frag}{mg:Str→Option Value}{base:Heap}{A:Around}{outer:List Env}{s:Shared}{H:Hp}(e:Env0 P w K mg base A outer s H)(C:Addr)(us:List Value)(kw:List (Str×Value)):
  Env0 P w K mg base (A.under (.builtin "type.__call__" ⟨.ref C::us,kw⟩)) outer s H:=⟨by first|exact e.frames|(simpa [Around.under,Code.envs,Code.isFrame,pushEnvs] using e.frames),e.mod,e.bs,e.bsz,e.funs,e.frf,e.hok,e.bare⟩
section
variable {X:Cx} {pins:List (Addr×Obj)} {σ:St} {H:Hp} {s s':Shared}
theorem Inv.env0(I:Inv X pins σ H s):Env0 X.prog X.w X.K X.mg X.base X.A X.stack s H:=
 ⟨I.ok.frames,I.ok.mod,I.bs,Nat.le_trans I.ok.bsz I.sz,I.stack,I.stkFree,I.hok,I.bare⟩
theorem Inv.after{Q:VK}{u:Value}(I:Inv X pins σ H s)(h:CE X.stack X.prog X.w H s Q u s'):EP X pins σ Q u s':=by
 obtain⟨v,H',os,bare,un,hok,r,q⟩:=h
 obtain⟨hh,g,d,t,os'⟩:=s'
 obtain rfl:os'=s.os:=os
 exact⟨v,H',I.call (h':=hh) (g':=g) (d':=d) (t':=t) (ch:=[]) un hok bare (fun b z=>absurd z (by simp)),r,q⟩
end
def lQ(sp:Sp)(dvs:List V)(E:XK)(t:TA):TE:=fun σ H Q=>t σ H fun vs H1=>sp (vs++dvs) H1 Q E
def aEG(C:Addr)(m:Str)(sp:Sp)(dvs:List V)(E:XK)(ta:TE)(t:TA):TE:=fun σ H Q=>ta σ H fun x H1=>∃a dx fs,x=.ref a∧H1 a=some (.ins C dx fs)∧fs.lookup m=none∧
 t σ H1 fun vs H2=>sp (x::(vs++dvs)) H2 Q E
def aEH(C:Addr)(sp:Sp)(dvs:List V)(E:XK)(t:TA):TE:=fun σ H Q=>t σ H fun vs H1=>∀x dx,H1 x=none→H1 dx=none→dx≠x→
 sp (.ref x::(vs++dvs)) (upd (upd H1 dx (.own x)) x (.ins C dx [])) (fun v H2=>v=.non∧Q (.ref x) H2) E
def fL(K:PySem.W.Frag)(fd:FuncData)(ps:List Str)(ds:List Value):Prop:=
 ∀ (s:Shared) (us:List Value),K.In s.heap→(us++ds).length=ps.length→BindsTo s fd ⟨us,[]⟩ (ps.zip (us++ds))
theorem fL.all{K:PySem.W.Frag}{fd:FuncData}{ps:List Str}(h:∀us:List Value,us.length=ps.length→bindArgs fd ⟨us,[]⟩=pure (ps.zip us)):fL K fd ps []:=fun s us _ hl=>by
 rw[List.append_nil] at hl ⊢
 exact .of_eq (h us hl)
def iM(CX:CXT)(X:Cx)(E:XK):Prop:=∀ (pins:List (Addr×Obj)) (σ:St) (H:Hp) (s:Shared) (e:Value) (s':Shared),Inv X pins σ H s→CX X.stack H s E e s'→X.xe e s'
section
variable {X:Cx} {CX:CXT} {k:Nat} {f C:Addr} {fd:FuncData} {ps:List Str} {sp:Sp} {dvs:List V} {ds:List Value} {E:XK} {x m:Str} {p pos apos:Pos} {e o:Expr} {es:List Expr} {ta:TE} {t:TA}
theorem aAs{pins:List (Addr×Obj)}{σ:St}{H:Hp}{s:Shared}{Q:VK}{us:List Value}{vs:List V}(F:FnOk X.prog X.w X.K X.mg X.base CX k f fd ps sp)(hr:Room k X.A)(hb:fL X.K fd ps ds)(hd:Vals dvs ds)(hx:iM CX X E)(I:Inv X pins σ H s)(r:Vals vs us)(h:sp (vs++dvs) H Q E):wpAny (model X.prog X.w) X.A (call (.ref f) us) (EP X pins σ Q) X.xe s:=by
 have r2:Vals (vs++dvs) (us++ds):=r.append hd
 have hl:(us++ds).length=ps.length:=by rw[← r2.length];exact F.len _ _ _ _ h
 refine wpAny_call (codeAny_mono (F.run X.A X.stack s H ⟨us,[]⟩ (us++ds) (vs++dvs) Q E hr I.env0 (hb s us I.kIn hl) r2 h) fun r s' hq=>?_)
 cases r with
 |error e=>exact hx pins σ H s e s' I hq
 |ok fl=>
  cases fl with
  |ret u=>exact I.after hq
  |next=>exact False.elim hq
  |brk=>exact False.elim hq
  |cont=>exact False.elim hq
theorem aCJ(F:FnOk X.prog X.w X.K X.mg X.base CX k f fd ps sp)(hr:Room k X.A)(hg:Gl X x)(hm:X.mg x=some (.ref f))(hk:PySem.W.keepIn X.K (.ref f)=true)(hb:fL X.K fd ps ds)(hd:Vals dvs ds)(hx:iM CX X E)(ha:PA X (e::es) t)(hdb:(x==("__debug__":Str))=false:=by decide)(he:starEach (e::es) X.env=(false,eval e X.env)::starEach es X.env:=by rfl)(hpl:(backTo pos (starEach es X.env)).any (·.1)=false:=by rfl):
  PE X (.Call (.Name x p) (e::es) [] pos) (lQ sp dvs E t):=by
 intro pins s σ H Q I h
 refine wpAny_Call_Name_kw (lM I hg hm ?_ hdb)
 refine PySem.W.callWith_K (h₀:=X.base) I.ok.mod.kin hk (thn (ha pos pins s σ H _ I h) fun us s1 ⟨vs,H1,I1,r,q⟩=>⟨I1.kIn,?_⟩) he hpl
 exact aAs F hr hb hd hx I1 r q
theorem fW{pl:Sem Bool}(he:PE X o ta)(c:Cls X.K C)(hm:Meth X.K C m f)(F:FnOk X.prog X.w X.K X.mg X.base CX k f fd ps sp)(hr:Room k X.A)(hb:fL X.K fd ps ds)(hd:Vals dvs ds)(hx:iM CX X E)(ha:PA X (e::es) t)(hst:starEach (e::es) X.env=(false,eval e X.env)::starEach es X.env:=by rfl)(hpl:(backTo pos (starEach es X.env)).any (·.1)=false:=by rfl)(ht:eval (.Call (.Attribute o m apos) (e::es) [] pos) X.env=(do
   let ov ← eval o X.env
   standAt apos.atName
   let (f,first) ← holding [ov] (getMethod ov m pl)
   callWith pos f first (backTo pos (starEach (e::es) X.env)) (backToKw pos (keywordEach [] X.env))):=by rfl):
  PE X (.Call (.Attribute o m apos) (e::es) [] pos) (aEG C m sp dvs E ta t):=by
 intro pins s σ H Q I h
 refine PySem.W.methodCall_KW (pl:=pl) (thn (he pins s σ H _ I h) fun u s1 ⟨x,H1,I1,rx,a,dx,fs,ex,ea,l,q⟩=>?_) ht
 subst ex
 obtain rfl:u=Value.ref a:=rx
 refine yA I1 ea c hm l ?_
 refine PySem.W.callWith_K (first:=[.ref a]) (h₀:=X.base) I.ok.mod.kin hm.kp (thn (ha pos pins s1 σ H1 _ I1 q) fun us s2 ⟨vs,H2,I2,r,q2⟩=>⟨I2.kIn,?_⟩) hst hpl
 exact aAs (us:=.ref a::us) (vs:=.ref a::vs) F hr hb hd hx I2 (.cons rfl r) q2
structure Mk(K:PySem.W.Frag)(C f:Addr):Prop where
 makes:PySem.W.makesIn K C=true
 init:PySem.W.findIn K (.ref C) "__init__"=some (some (.ref f))
 fn:PySem.W.isFn K (.ref f)=true
 kp:PySem.W.keepIn K (.ref C)=true
theorem aBJ{pins:List (Addr×Obj)}{σ:St}{H:Hp}{s:Shared}{Q:VK}{us:List Value}{vs:List V}(M:Mk X.K C f)(F:FnOk X.prog X.w X.K X.mg X.base CX k f fd ps sp)(hr:Room (k+1) X.A)(hb:fL X.K fd ps ds)(hd:Vals dvs ds)(hx:iM CX X E)(I:Inv X pins σ H s)(r:Vals vs us)(h:∀x dx,H x=none→H dx=none→dx≠x→sp (.ref x::(vs++dvs)) (upd (upd H dx (.own x)) x (.ins C dx [])) (fun v H2=>v=.non∧Q (.ref x) H2) E):
  wpAny (model X.prog X.w) X.A (call (.ref C) us) (EP X pins σ Q) X.xe s:=by
 have hq:=h (s.heap.objs.size+1) s.heap.objs.size (I.hok.fresh (Nat.le_succ _)) (I.hok.fresh (Nat.le_refl _)) (Nat.ne_of_lt (Nat.lt_succ_self _))
 have I2:=Inv.made (C:=C) I
 have r2:Vals (V.ref (s.heap.objs.size+1)::(vs++dvs)) (Value.ref (s.heap.objs.size+1)::(us++ds)):=.cons rfl (r.append hd)
 have hl:(Value.ref (s.heap.objs.size+1)::us++ds).length=ps.length:=by
  have e:=r2.length
  rw[F.len _ _ _ _ hq] at e
  exact e.symm
 refine wpAny_call (aBI (f:=f) I.kIn M.makes M.init (beq_iff_eq.mp M.fn) (codeAny_mono (F.run _ X.stack _ _ ⟨Value.ref (s.heap.objs.size+1)::us,[]⟩ (Value.ref (s.heap.objs.size+1)::(us++ds)) _ _ E (hr.make C us [])
  (I2.env0.make C us []) (hb _ (Value.ref (s.heap.objs.size+1)::us) I2.kIn hl) r2 hq) fun r s' hq'=>?_))
 cases r with
 |error e=>exact hx pins σ _ _ e s' I2 hq'
 |ok fl=>
  cases fl with
  |ret u=>
   obtain⟨v,H',I3,rv,ev,q3⟩:=I2.after hq'
   subst ev
   exact⟨rv,⟨V.ref (s.heap.objs.size+1),H',I3,rfl,q3⟩⟩
  |next=>exact False.elim hq'
  |brk=>exact False.elim hq'
  |cont=>exact False.elim hq'
theorem aCK(M:Mk X.K C f)(F:FnOk X.prog X.w X.K X.mg X.base CX k f fd ps sp)(hr:Room (k+1) X.A)(hg:Gl X x)(hm:X.mg x=some (.ref C))(hb:fL X.K fd ps ds)(hd:Vals dvs ds)(hx:iM CX X E)(ha:PA X (e::es) t)(hdb:(x==("__debug__":Str))=false:=by decide)(he:starEach (e::es) X.env=(false,eval e X.env)::starEach es X.env:=by rfl)(hpl:(backTo pos (starEach es X.env)).any (·.1)=false:=by rfl):
  PE X (.Call (.Name x p) (e::es) [] pos) (aEH C sp dvs E t):=by
 intro pins s σ H Q I h
 refine wpAny_Call_Name_kw (lM I hg hm ?_ hdb)
 refine PySem.W.callWith_K (h₀:=X.base) I.ok.mod.kin M.kp (thn (ha pos pins s σ H _ I h) fun us s1 ⟨vs,H1,I1,r,q⟩=>⟨I1.kIn,?_⟩) he hpl
 exact aBJ M F hr hb hd hx I1 r q
end
def PK(X:Cx)(kws:List Keyword)(t:TA):Prop:=
 ∀ (pos:Pos) (pins:List (Addr×Obj)) (s:Shared) (σ:St) (H:Hp) (Q:List V→Hp→Prop),Inv X pins σ H s→t σ H Q→wpAny (model X.prog X.w) X.A (evalAll ((backToKw pos (keywordEach kws X.env)).map (·.2))) (AP X pins σ Q) X.xe s
section
variable {X:Cx} {CX:CXT} {k:Nat} {f C:Addr} {fd:FuncData} {ps ks:List Str} {sp:Sp} {E:XK} {x m:Str} {p pos apos kpos:Pos} {e o:Expr} {es:List Expr} {kws:List Keyword} {te ta:TE} {t tk:TA} {nm:Option Str}
theorem aDX:PK X [] tNil:=fun _ _ _ _ H Q I h=>wpAny_evalAll_nil ⟨[],H,I,.nil,h⟩
theorem aCL(ha:PE X e te)(hr:PK X kws t):PK X (⟨nm,e,kpos⟩::kws) (bJ te t):=by
 intro pos pins s σ H Q I h
 show wpAny _ _ (evalAll ((do let v ← eval e X.env;standAt pos;pure v)::(backToKw pos (keywordEach kws X.env)).map (·.2))) _ _ s
 refine wpAny_evalAll_cons (wpAny_bind (thn (ha pins s σ H _ I h) fun u s1 ⟨x,H1,I1,r1,q1⟩=>wpAny_bind (wpAny_standAt (wpAny_pure ?_))))
 exact thn (hr pos pins s1 σ H1 _ I1 q1) fun us s2 ⟨xs,H2,I2,r2,q2⟩=>⟨x::xs,H2,I2,.cons r1 r2,q2⟩
variable {g:List Value→List Value→List Value} {gV:List V→List V→List V}
end
structure aW(N P:List Str)(sc:Scope):Prop where
 kind:sc.kind=.function
 co:sc.isCoroutine=false
 gen:sc.isGenerator=false
 nd:N.Nodup
 pre:N.take P.length=P
 par:∀x∈P,sc.names.lookup x=some .local∨sc.names.lookup x=some .cell
 nofree:∀y∈sc.names,y.2≠.free
theorem qB{kindOf:Str→Option NameKind}{x:Str}:∀ {binds:List (Str×Value)} {m:Str→Option Value},(∀v,(x,v)∉binds)→bindL kindOf binds m x=m x
 |[],_,_=>rfl
 |(n,v)::r,m,h=>by
  unfold bindL
  rw[qB fun w hw=>h w (List.mem_cons_of_mem _ hw)]
  split
  ·have:x≠n:=by rintro rfl;exact h v List.mem_cons_self
   simp[this]
  ·rfl
theorem qC{kindOf:Str→Option NameKind}{x:Str}:∀ {binds:List (Str×Value)} {m:Str→Option Value},(∀v,(x,v)∉binds)→bindC kindOf binds m x=m x
 |[],_,_=>rfl
 |(n,v)::r,m,h=>by
  unfold bindC
  rw[qC fun w hw=>h w (List.mem_cons_of_mem _ hw)]
  split
  ·rfl
  ·have:x≠n:=by rintro rfl;exact h v List.mem_cons_self
   simp[this]
theorem qD{kindOf:Str→Option NameKind}{x:Str}{v:Value}:∀ {P:List Str} {vs:List Value} {i:Nat} {m:Str→Option Value},P.Nodup→P[i]?=some x→vs[i]?=some v→kindOf x=some .local→
  bindL kindOf (P.zip vs) m x=some v
 |[],_,_,_,_,h,_,_=>by simp at h
 |_::_,[],_,_,_,_,h,_=>by simp at h
 |p::P,w::vs,0,m,nd,h1,h2,hk=>by
  simp at h1 h2;subst h1;subst h2
  show bindL kindOf ((p,w)::P.zip vs) m p=_
  unfold bindL
  rw[qB fun v hv=>(List.nodup_cons.mp nd).1 (List.of_mem_zip hv).1,if_pos hk]
  simp
 |p::P,w::vs,i+1,m,nd,h1,h2,hk=>by
  show bindL kindOf ((p,w)::P.zip vs) m x=_
  unfold bindL
  exact qD (i:=i) (List.nodup_cons.mp nd).2 (by simpa using h1) (by simpa using h2) hk
theorem qE{kindOf:Str→Option NameKind}{x:Str}{v:Value}:∀ {P:List Str} {vs:List Value} {i:Nat} {m:Str→Option Value},P.Nodup→P[i]?=some x→vs[i]?=some v→kindOf x≠some .local→
  bindC kindOf (P.zip vs) m x=some v
 |[],_,_,_,_,h,_,_=>by simp at h
 |_::_,[],_,_,_,_,h,_=>by simp at h
 |p::P,w::vs,0,m,nd,h1,h2,hk=>by
  simp at h1 h2;subst h1;subst h2
  show bindC kindOf ((p,w)::P.zip vs) m p=_
  unfold bindC
  rw[qC fun v hv=>(List.nodup_cons.mp nd).1 (List.of_mem_zip hv).1,if_neg hk]
  simp
 |p::P,w::vs,i+1,m,nd,h1,h2,hk=>by
  show bindC kindOf ((p,w)::P.zip vs) m x=_
  unfold bindC
  exact qE (i:=i) (List.nodup_cons.mp nd).2 (by simpa using h1) (by simpa using h2) hk
def start(N:List Str)(vs:List V):St:=vs.map some++List.replicate (N.length-vs.length) none
def cxOf(CX:CXT)(P:Program)(w:World)(K:PySem.W.Frag)(mg:Str→Option Value)(base:Heap)(N:List Str)(qual:Str)(scope:Scope)(f:Addr)(cd:Value)(A:Around)(outer:List Env)(s:Shared)(H:Hp)(E:XK):Cx where
 prog:=P
 w:=w
 K:=K
 mg:=mg
 base:=base
 A:=A.deeper (envOfC qual scope s.heap.objs.size f cd)
 N:=N
 s₀:=s
 H₀:=H
 env:=envOfC qual scope s.heap.objs.size f cd
 outer:=outer
 stack:=envOfC qual scope s.heap.objs.size f cd::outer
 ex:=[]
 calm:=true
 fn:=fun _=>true
 pn:=[]
 xe:=fun e s'=>wpAny (model P w) (A.deeper (envOfC qual scope s.heap.objs.size f cd)) (leaving (envOfC qual scope s.heap.objs.size f cd) e) (fun _ s''=>CX outer H s E e s'') (fun e' s''=>CX outer H s E e' s'') s'
theorem rZ{sc:Scope}{n:Nat}{x:Str}(h:sc.names.lookup x=some .cell):∃c,(cellsFrom n sc.names []).lookup x=some c:=by
 have q:=PySem.W.cellsFrom_some sc.names n [] (.inl h)
 exact Option.isSome_iff_exists.mp q
theorem aAt{CX:CXT}{P:Program}{w:World}{K:PySem.W.Frag}{mg:Str→Option Value}{base:Heap}{N ps:List Str}{qual:Str}{scope:Scope}{f:Addr}{cd:Value}{A:Around}{outer:List Env}{s s1:Shared}{H:Hp}{E:XK}{us:List Value}{vs:List V}(S:aW N ps scope)(hd:A.handled=none)(e0:Env0 P w K mg base A outer s H)(hl:vs.length=ps.length)(r:Vals vs us)(x:InCallC s s.heap.objs.size (bindL (envOfC qual scope s.heap.objs.size f cd).kindOf (ps.zip us) fun _=>none) (cellsFrom (s.heap.objs.size+1) scope.names []) (bindC (envOfC qual scope s.heap.objs.size f cd).kindOf (ps.zip us) fun _=>none) s1):
  Inv (cxOf CX P w K mg base N qual scope f cd A outer s H E) [] (start N vs) H s1:=by
 have hpl:ps.length≤N.length:=by have:=congrArg List.length S.pre;rw[List.length_take] at this;lia
 obtain⟨h1,tk,rfl,hk⟩:=x.done
 have noA:∀b:Addr,b∉(cxOf CX P w K mg base N qual scope f cd A outer s H E).ex:=fun b z=>absurd (show b∈([]:List Addr) from z) (by simp)
 refine⟨⟨e0.mod,S.kind,rfl,rfl,Nat.le_refl _,fun y z c h1 h2=>?_,fun y hy=>?_,fun y c _ h=>?_,fun _=>hd,Around.frames_deeper e0.frames,.inr ⟨rfl,rfl⟩,fun b z=>absurd z (noA b),e0.bs,e0.bsz,fun b _ _=>noA b,fun b z=>absurd z (noA b),e0.funs,e0.frf⟩,
  rfl,e0.bare,Un.kept hk,⟨_,x.toInCall.ns,fun i y v h1 h2 h3=>?_⟩,fun y c h=>⟨_,x.cell y c h⟩,e0.hok.fresh (Nat.le_refl _),fun y c h=>?_,fun p hp=>absurd (show p∈([]:List (Addr×Obj)) from hp) (by simp),e0.hok.kept hk,?_⟩
 ·exact name_of_addr x.apart (PySem.mem_of_lookup h1) (PySem.mem_of_lookup h2)
 ·have hy:scope.names.lookup y=some .cell∨scope.names.lookup y=some .free:=hy
  rcases hy with hy|hy
  ·exact rZ hy
  ·exact absurd rfl (S.nofree _ (PySem.mem_of_lookup hy))
 ·exact Nat.le_of_lt (x.above y c (PySem.mem_of_lookup h))
 ·have hi:i<vs.length:=by
   unfold start at h2
   by_cases hi:i<vs.length
   ·exact hi
   ·rw[List.getElem?_append_right (by simpa using hi)] at h2
    rw[List.getElem?_replicate] at h2
    split at h2 <;> cases h2
  have ha:vs[i]?=some v:=by
   unfold start at h2
   rw[List.getElem?_append_left (by simpa using hi),List.getElem?_map] at h2
   cases e:vs[i]? with
   |none=>rw[e] at h2;cases h2
   |some a=>rw[e] at h2;cases h2;rfl
  obtain⟨u,hu,rv⟩:=r.get ha
  have hp:ps[i]?=some y:=by
   rw[← S.pre,List.getElem?_take_of_lt (by lia)];exact h1
  have ndP:ps.Nodup:=by rw[← S.pre];exact S.nd.sublist (List.take_sublist _ _)
  refine⟨u,rv,?_⟩
  rcases S.par y (List.mem_of_getElem? hp) with k|k
  ·exact .inl ⟨k,qD ndP hp hu k⟩
  ·obtain⟨c,e⟩:=rZ (n:=s.heap.objs.size+1) k
   refine .inr ⟨.inl k,c,e,?_⟩
   have q:=x.cell y c e
   rw[qE ndP hp hu (by show scope.names.lookup y≠_;rw[k];decide)] at q
   exact q
 ·exact e0.hok.fresh (Nat.le_of_lt (x.above y c (PySem.mem_of_lookup h)))
 ·unfold start
  show _=N.length
  rw[List.length_append,List.length_map,List.length_replicate]
  lia
theorem aCq{CX:CXT}{P:Program}{w:World}{K:PySem.W.Frag}{mg:Str→Option Value}{base:Heap}{k:Nat}{f:Addr}{name qual:Str}{params:Arguments}{body:List Stmt}{scope:Scope}{dV kV doc pm cdv ct oc:Value}{an od:Option Addr}{osl:Array (Option Value)}{N ps:List Str}{sp:Sp}(lk:K.lookup f=some ⟨oc,od,.func (PySem.W.fnOf name qual params body scope dV kV doc pm an cdv ct),osl⟩)(hcd:PySem.W.codeIn K cdv qual=true)(S:aW N ps scope)(len:∀vs H Q E,sp vs H Q E→vs.length=ps.length)(hbody:∀ (A:Around) (outer:List Env) (s:Shared) (H:Hp) (vs:List V) (Q:VK) (E:XK),Room k (A.deeper (envOfC qual scope s.heap.objs.size f cdv))→sp vs H Q E→
   ∃t,PSs (cxOf CX P w K mg base N qual scope f cdv A outer s H E) body t∧t { nx:=fun _ H'=>Q .non H',rt:=Q } (start N vs) H):
  FnOk P w K mg base CX (k+1) f (PySem.W.fnOf name qual params body scope dV kV doc pm an cdv ct) ps sp:=by
 refine⟨len,fun A outer s H args us vs Q E hr e0 hb r hsp=>?_⟩
 have hl:=len _ _ _ _ hsp
 have KX:K.In s.heap:=e0.mod.kin.keeps fun b o e=>(e0.bs b o e).1
 have lim:s.heap.NoLimit:=e0.mod.nolimit.keeps fun b o e=>(e0.bs b o e).1
 have hkind:∀y∈ps.zip us,scope.names.lookup y.1=some .local∨(scope.names.lookup y.1=some .cell∧((cellsFrom (s.heap.objs.size+1) scope.names []).lookup y.1).isSome=true):=fun ⟨n,v⟩ hy=>by
  rcases S.par n (List.of_mem_zip hy).1 with q|q
  ·exact .inl q
  ·exact .inr ⟨q,PySem.W.cellsFrom_some _ _ _ (.inl q)⟩
 refine codeAny_call_function hr.depth (KX _ _ lk) rfl S.co S.gen rfl (PySem.W.codeRec_of KX hcd) (hb _ _ _ _ ?_)
 refine wpAny_newFunctionEnv_cells S.kind hkind fun env he s1 x=>?_
 subst he
 refine⟨lim.keeps x.toInCall.keep,codeAny_func ?_⟩
 obtain⟨t,ht,hq⟩:=hbody A outer s H vs Q E (hr.deeper _) hsp
 have I:Inv (cxOf CX P w K mg base N qual scope f cdv A outer s H E) [] (start N vs) H s1:=aAt S hr.hd e0 hl r x
 refine wpAny_mono (ht [] s1 (start N vs) H _ I hq) (fun fl s' hs=>?_) fun e s' hs=>hs
 have fin:∀ {σ':St} {H':Hp} {v:V} {u:Value},Inv (cxOf CX P w K mg base N qual scope f cdv A outer s H E) [] σ' H' s'→RelV v u→Q v H'→CE outer P w H s Q u s':=
  fun {σ' H' v u} J rv q=>⟨v,H',J.os,J.bare,J.base,J.hok,rv,q⟩
 cases fl with
 |ret u=>
  obtain⟨v,σ',H',J,rv,q⟩:=hs
  exact fin J rv q
 |next=>
  obtain⟨σ',H',J,q⟩:=hs
  exact fin (v:=V.non) (u:=Value.none) J rfl q
 |brk=>
  obtain⟨_,_,_,q⟩:=hs
  exact False.elim q
 |cont=>
  obtain⟨_,_,_,q⟩:=hs
  exact False.elim q
end L2
namespace L2
open PySem PySem.Spec PyProof.Rows
section
variable {X:Cx} {x:Str} {p pos:Pos} {e:Expr} {es:List Expr} {t:TA} {id T:String} {r:List V→Hp→VK→Prop}
def tCB(r:List V→Hp→VK→Prop)(t:TA):TE:=fun σ H Q=>t σ H fun vs H1=>r vs H1 Q
theorem aU(hc:cU X (.builtin id) r)(hg:Gl X x)(hm:X.mg x=none)(hv:bootBuiltins x=some (.builtin id))(ha:PA X (e::es) t)(hn:x≠"__name__":=by decide)(hdb:(x==("__debug__":Str))=false:=by decide)(he:starEach (e::es) X.env=(false,eval e X.env)::starEach es X.env:=by rfl)(hpl:(backTo pos (starEach es X.env)).any (·.1)=false:=by rfl):PE X (.Call (.Name x p) (e::es) [] pos) (tCB r t):=by
 intro pins s σ H Q I h
 refine wpAny_Call_Name_kw (fF I hg hm hv ?_ hn hdb)
 exact PyProof.Rows.callWith_builtin1 (thn (ha pos pins s σ H _ I h) fun us s1 ⟨vs,H1,I1,r1,q1⟩=>hc pins s1 σ H1 vs us Q I1 r1 q1) he hpl
theorem cJ(hc:cU X (.type T) r)(hg:Gl X x)(hm:X.mg x=none)(hv:bootBuiltins x=some (.type T))(ha:PA X (e::es) t)(hn:x≠"__name__":=by decide)(hdb:(x==("__debug__":Str))=false:=by decide)(he:starEach (e::es) X.env=(false,eval e X.env)::starEach es X.env:=by rfl)(hpl:(backTo pos (starEach es X.env)).any (·.1)=false:=by rfl):PE X (.Call (.Name x p) (e::es) [] pos) (tCB r t):=by
 intro pins s σ H Q I h
 refine wpAny_Call_Name_kw (fF I hg hm hv ?_ hn hdb)
 exact PyProof.Rows.callWith_type1 (thn (ha pos pins s σ H _ I h) fun us s1 ⟨vs,H1,I1,r1,q1⟩=>hc pins s1 σ H1 vs us Q I1 r1 q1) he hpl
end
end L2
namespace HT
open PySem PyProof.Rows
section
open PySem.SeqAt
open PySem.AutoSeq1 (wpAny_loadPart')
open PySem.MeetsSeq PySem.MeetsSeq2 PySem.MeetsSeq3
end
section
variable {prog:Program} {w:World} {A:Around} {E:Value→Shared→Prop} {s:Shared}
def sIx(n d:Nat):Option Int→Nat
 |none=>d
 |some v=>if v<0 then (v+(n:Int)).toNat else min v.toNat n
end
end HT
namespace L2
open PySem PySem.Spec PyProof.Rows
abbrev TO:=St→Hp→(Option Int→Hp→Prop)→Prop
def PO(X:Cx)(e:Option Expr)(t:TO):Prop:=
 ∀ (pins:List (Addr×Obj)) (s:Shared) (σ:St) (H:Hp) (Q:Option Int→Hp→Prop),Inv X pins σ H s→t σ H Q→
  wpAny (model X.prog X.w) X.A (evalPart e X.env) (fun u s'=>∃o H',Inv X pins σ H' s'∧IsPart u o∧Q o H') X.xe s
def aCM:TO:=fun _ H Q=>Q none H
def aEI(t:TE):TO:=fun σ H Q=>t σ H fun x H1=>∃i,x=.int i∧Q (some i) H1
section
variable {X:Cx} {e:Expr} {te:TE} {lo hi:Option Expr} {tl th:TO} {pos p2:Pos}
theorem oZ:PO X none aCM:=by
 intro pins s σ H Q I h
 rw[evalPart_none]
 exact wpAny_pure ⟨none,H,I,.none,h⟩
theorem pA(h:PE X e te):PO X (some e) (aEI te):=by
 intro pins s σ H Q I hw
 rw[evalPart_some]
 refine thn (h pins s σ H _ I hw) fun u s1 ⟨x,H1,I1,r1,q1⟩=>?_
 obtain⟨i,rfl,q⟩:=q1
 obtain⟨t,rfl⟩:=r1
 exact⟨some i,H1,I1,.int i t,q⟩
def SlR(X:Cx)(r:V→Option Int→Option Int→Hp→VK→Prop):Prop:=
 ∀ (pins:List (Addr×Obj)) (s:Shared) (σ:St) (H:Hp) (x:V) (v vl vu:Value) (lo hi:Option Int) (sl:Addr) (Q:VK),Inv X pins σ H s→RelV x v→s.heap.IsSliceOf sl vl vu .none→IsPart vl lo→IsPart vu hi→r x lo hi H Q→
  ∃T id,typeLookup (.type T) "__getitem__"=pure (some (.builtin id))∧s.TypeIs v T∧wpAny (model X.prog X.w) X.A (getItem v (.ref sl)) (EP X pins σ Q) X.xe s
def tSl(r:V→Option Int→Option Int→Hp→VK→Prop)(te:TE)(tl th:TO):TE:=fun σ H Q=>te σ H fun x H1=>tl σ H1 fun l H2=>th σ H2 fun u H3=>r x l u H3 Q
theorem mU{r:V→Option Int→Option Int→Hp→VK→Prop}(hr:SlR X r)(he:PE X e te)(hl:PO X lo tl)(hu:PO X hi th):PE X (.Subscript e (.Slice lo hi none p2) pos) (tSl r te tl th):=by
 intro pins s σ H Q I h
 refine Subscript_ (thn (he pins s σ H _ I h) fun v s1 ⟨x,H1,I1,r1,q1⟩=>?_)
 refine wpAny_Slice (thn (hl pins s1 σ H1 _ I1 q1) fun vl s2 ⟨l,H2,I2,pl,q2⟩=>thn (hu pins s2 σ H2 _ I2 q2) fun vu s3 ⟨u,H3,I3,pu,q3⟩=>?_)
 rw[evalPart_none]
 refine wpAny_pure ?_
 have I4:Inv X pins σ H3 { s3 with heap:=s3.heap.push { cls:=.type "slice",data:=.fields #[vl,vu,.none] } }:=I3.kept (t':=s3.toks) fun b ob q=>Heap.get?_push_of_some _ q
 obtain⟨T,id,hT,ht,hg⟩:=hr pins { s3 with heap:=s3.heap.push { cls:=.type "slice",data:=.fields #[vl,vu,.none] } } σ H3 x v vl vu l u s3.heap.objs.size Q I4 r1 (Heap.IsSliceOf.new ..) pl pu q3
 show wpAny (model X.prog X.w) X.A (subscriptTail e (.Slice lo hi none p2) v (.ref s3.heap.objs.size)) (EP X pins σ Q) X.xe { s3 with heap:=s3.heap.push { cls:=.type "slice",data:=.fields #[vl,vu,.none] } }
 exact tail_any (ops:=[.ref s3.heap.objs.size,v]) ht hT hg (by with_unfolding_all rfl)
def cutV(xs:List V)(lo hi:Option Int):List V:=(xs.drop (HT.sIx xs.length 0 lo)).take (HT.sIx xs.length xs.length hi-HT.sIx xs.length 0 lo)
theorem vL(xs:List V)(lo hi:Option Int):(cutV xs lo hi).length≤xs.length:=by
 unfold cutV
 rw[List.length_take,List.length_drop]
 lia
end
end L2
namespace L2
open PySem PySem.Spec PyProof.Rows
def ixN(n:Nat)(i:Int):Option Nat:=if 0≤i then (if i<n then some i.toNat else none) else if -(n:Int)≤i then some (i+n).toNat else none
def atI{α:Type}(xs:List α)(i:Int):Option α:=(ixN xs.length i).bind fun j=>xs[j]?
theorem pB{n:Nat}{i:Int}{j:Nat}(h:ixN n i=some j):seqIndex? i n=some j∧j<n∧-(n:Int)≤i∧i<n:=by
 unfold ixN at h
 by_cases h0:0≤i
 ·rw[if_pos h0] at h
  by_cases h1:i<n
  ·rw[if_pos h1] at h
   have e:i.toNat=j:=Option.some.inj h
   exact⟨by rw[seqIndex_of h0 h1,e],by lia,by lia,h1⟩
  ·rw[if_neg h1] at h;cases h
 ·rw[if_neg h0] at h
  by_cases h1:-(n:Int)≤i
  ·rw[if_pos h1] at h
   have e:(i+n).toNat=j:=Option.some.inj h
   exact⟨by rw[seqIndex_neg (by lia) h1,e],by lia,h1,by lia⟩
  ·rw[if_neg h1] at h;cases h
theorem wG{α:Type}{xs:List α}{i:Int}{v:α}(h:atI xs i=some v):∃j,seqIndex? i xs.length=some j∧xs[j]?=some v∧j<xs.length∧-(xs.length:Int)≤i∧i<xs.length:=by
 unfold atI at h
 cases e:ixN xs.length i with
 |none=>rw[e] at h;cases h
 |some j=>
  rw[e] at h
  obtain⟨h1,h2,h3,h4⟩:=pB e
  exact⟨j,h1,h,h2,h3,h4⟩
theorem aM{α:Type}{xs:List α}{j:Nat}{v:α}(h:xs[j]?=some v):atI xs (j:Int)=some v:=by
 have hj:j<xs.length:=(List.getElem?_eq_some_iff.mp h).1
 have e:ixN xs.length (j:Int)=some j:=by
  unfold ixN
  rw[if_pos (by lia),if_pos (by lia)];simp
 unfold atI;rw[e];exact h
theorem sD{α:Type}(xs:List α)(v:α):atI (xs++[v]) (-1)=some v:=by
 have hl:(xs++[v]).length=xs.length+1:=by simp
 have e:ixN (xs++[v]).length (-1)=some xs.length:=by
  unfold ixN
  rw[hl,if_neg (by decide),if_pos (by lia)]
  congr 1
  lia
 unfold atI
 rw[e]
 show (xs++[v])[xs.length]?=some v
 simp
def aCN(b:Expr):Prop:=∀o i,subscripted b false o i=operate [o,i] (getItem o i)
def IxR(X:Cx)(r:R2):Prop:=
 ∀ (value slice:Expr) (pins:List (Addr×Obj)) (s:Shared) (σ:St) (H:Hp) (x y:V) (v u:Value) (Q:VK),Inv X pins σ H s→RelV x v→RelV y u→r x y H Q→
  subscripted slice false v u=operate [v,u] (getItem v u)→wpAny (model X.prog X.w) X.A (subscriptTail value slice v u) (EP X pins σ Q) X.xe s
def MtR(X:Cx)(id:String)(r:V→List V→Hp→VK→Prop):Prop:=
 ∀ (pins:List (Addr×Obj)) (s:Shared) (σ:St) (H:Hp) (x:V) (xs:List V) (v:Value) (us:List Value) (Q:VK),Inv X pins σ H s→RelV x v→Vals xs us→r x xs H Q→
  wpAny (model X.prog X.w) X.A (call (.builtin id) (v::us)) (EP X pins σ Q) X.xe s
section
variable {X:Cx} {a b:Expr} {ta tb:TE} {pos:Pos}
theorem aS{r:R2}(hr:IxR X r)(ha:PE X a ta)(hb:PE X b tb)(hs:aCN b):PE X (.Subscript a b pos) (tOp r ta tb):=by
 intro pins s σ H Q I h
 exact Subscript_ (binT ha hb I h fun v u s2 x y H2 I2 rx ry q=>hr a b pins s2 σ H2 x y v u Q I2 rx ry q (hs _ _))
def rIxL(K:PySem.W.Frag):R2:=fun x y H Q=>∃p xs i v,x=.ref p∧y=.int i∧SqL K H p xs∧atI xs i=some v∧Q v H
def rIxT(K:PySem.W.Frag):R2:=fun x y H Q=>∃p xs i v,x=.ref p∧y=.int i∧SqT K H p xs∧atI xs i=some v∧Q v H
theorem aP:IxR X (rIxL X.K):=by
 intro value slice pins s σ H x y v u Q I rx ry h hs
 obtain⟨p,xs,i,z,rfl,rfl,hq,he,q⟩:=h
 cases rx
 obtain⟨t,rfl⟩:=ry
 obtain⟨its,r,pl,hz⟩:=I.list hq
 obtain⟨j,h1,h2,h3,h4,h5⟩:=wG he
 obtain⟨w,ew,rw'⟩:=r.get h2
 have hl:=r.length
 have hn:=nM
 have fin:EP X pins σ Q w s:=⟨z,H,I,rw',q⟩
 by_cases h0:0≤i
 ·have hj:i.toNat=j:=by
   rw[seqIndex_of h0 h5] at h1
   exact Option.some.inj h1
  exact item_listR pl.isList h0 (by lia) (by rw[hj];simpa using ew) fin hs
 ·have hj:(i+(its.toArray.size:Int)).toNat=j:=by
   rw[seqIndex_neg (by lia) h4] at h1
   rw[List.size_toArray,← hl]
   exact Option.some.inj h1
  exact subscriptTail_builtinR (x:=w) pl.isList.typeIs slot_list_getitem.lookup
   (wpAny_getItem_list_neg (Q:=fun r s'=>r=w∧EP X pins σ Q r s') pl.isList (by lia) (by rw[List.size_toArray] <;> lia) (by lia) (by rw[hj];simpa using ew) ⟨rfl,fin⟩) hs
theorem eJ:IxR X (rIxT X.K):=by
 intro value slice pins s σ H x y v u Q I rx ry h hs
 obtain⟨p,xs,i,z,rfl,rfl,hq,he,q⟩:=h
 cases rx
 obtain⟨t,rfl⟩:=ry
 obtain⟨its,r,pl,hz⟩:=I.tuple hq
 obtain⟨j,h1,h2,h3,h4,h5⟩:=wG he
 obtain⟨w,ew,rw'⟩:=r.get h2
 have hl:=r.length
 have hn:=nM
 have fin:EP X pins σ Q w s:=⟨z,H,I,rw',q⟩
 exact subscriptTail_builtinR (x:=w) pl.typeIs slot_tuple_getitem.lookup
  (getItem_tuple (j:=j) (Q:=fun r s'=>r=w∧EP X pins σ Q r s') pl (by lia) (by lia) (by rw[List.size_toArray,← hl];exact h1) (by simpa using ew) ⟨rfl,fin⟩) hs
theorem yE(its:List Value)(n j:Nat)(u:Value):Obj.mapSeq (·.setIfInBounds j u) { cls:=.type "list",data:=.seq its.toArray n }={ cls:=.type "list",data:=.seq (its.set j u).toArray n }:=by
 simp[Obj.mapSeq]
theorem Inv.lst{pins:List (Addr×Obj)}{σ:St}{H:Hp}{s:Shared}{p:Addr}{xs:List V}(I:Inv X pins σ H s)(h:H p=some (.lst xs)):
  ∃ (its:List Value) (n:Nat),Vals xs its∧s.heap.get? p=some { cls:=.type "list",data:=.seq its.toArray n }∧xs.length≤sizeLine:=by
 obtain⟨z,its,n,r,e⟩:=I.hok p _ h
 exact⟨its,n,r,e,z⟩
theorem Inv.lstUpd{pins:List (Addr×Obj)}{σ:St}{H:Hp}{s:Shared}{p:Addr}{xs ys:List V}{its its':List Value}{n n':Nat}{f:Obj→Obj}(I:Inv X pins σ H s)(h:H p=some (.lst xs))(ho:s.heap.get? p=some { cls:=.type "list",data:=.seq its.toArray n })(hf:f { cls:=.type "list",data:=.seq its.toArray n }={ cls:=.type "list",data:=.seq its'.toArray n' })(r:Vals ys its')(hz:ys.length≤sizeLine)(t:Nat):
  Inv X pins σ (upd H p (.lst ys)) { s with heap:=s.heap.update p f,toks:=t }:=by
 have e:(s.heap.update p f).get? p=some { cls:=.type "list",data:=.seq its'.toArray n' }:=by
  rw[Heap.get?_update_self f ho (by rw[hf] <;> rfl),hf]
 refine I.write (x:=p) (e:=p) (by rw[h];trivial) (.inl rfl) (fun b u hb q=>(Heap.get?_update_other _ _ (Ne.symm hb)).trans q) ⟨_,e⟩ ?_
 exact⟨hz,its',n',r,e⟩
def aEJ:V→V→V→Hp→(Hp→Prop)→Prop:=fun o i v H Q=>∃p xs k j,o=.ref p∧i=.int k∧H p=some (.lst xs)∧ixN xs.length k=some j∧Q (upd H p (.lst (xs.set j v)))
theorem cN:PSet X aEJ:=by
 intro pins s σ H o i v ov iv u Q I ro ri rv h
 obtain⟨p,xs,k,j,rfl,rfl,hp,hj,q⟩:=h
 cases ro
 obtain⟨t,rfl⟩:=ri
 obtain⟨its,n,r,ho,hz⟩:=I.lst hp
 obtain⟨h1,h2,h3,h4⟩:=pB hj
 have hl:=r.length
 have hn:=nM
 have I':Inv X pins σ (upd H p (.lst (xs.set j v))) { s with heap:=s.heap.update p (Obj.mapSeq (·.setIfInBounds j u)) }:=
  I.lstUpd hp ho (yE its n j u) (r.set rv j) (by rw[List.length_set];exact hz) s.toks
 by_cases h0:0≤k
 ·have hk:k.toNat=j:=by
   rw[seqIndex_of h0 h4] at h1
   exact Option.some.inj h1
  exact PySem.W.ki_setAt ho h0 (by lia) (by rw[List.size_toArray,← hl];exact h4) (by rw[hk];exact⟨_,I',q⟩)
 ·have hk:(k+(its.toArray.size:Int)).toNat=j:=by
   rw[seqIndex_neg (by lia) h3] at h1
   rw[List.size_toArray,← hl]
   exact Option.some.inj h1
  exact PySem.W.ki_setBack ho (by lia) (by rw[List.size_toArray,← hl];exact h3) (by lia) (by rw[hk];exact⟨_,I',q⟩)
theorem sG(lo hi:Option Int)(n:Nat):(sliceBounds lo hi none n).1=((HT.sIx n 0 lo:Nat):Int)∧(sliceBounds lo hi none n).2.1=((HT.sIx n n hi:Nat):Int)∧(sliceBounds lo hi none n).2.2=1:=by
 refine⟨?_,?_,rfl⟩
 ·cases lo with
  |none=>simp[sliceBounds,HT.sIx]
  |some i=>
   simp only[sliceBounds,HT.sIx,Option.getD_none,show (1:Int) > 0 by decide,if_true]
   by_cases h:i<0
   ·simp only[h,if_true] <;> lia
   ·simp only[h,if_false] <;> lia
 ·cases hi with
  |none=>simp[sliceBounds,HT.sIx]
  |some i=>
   simp only[sliceBounds,HT.sIx,Option.getD_none,show (1:Int) > 0 by decide,if_true]
   by_cases h:i<0
   ·simp only[h,if_true] <;> lia
   ·simp only[h,if_false] <;> lia
theorem qX(its:List Value)(lo hi:Option Int):slicePick its.toArray lo hi none=((its.drop (HT.sIx its.length 0 lo)).take (HT.sIx its.length its.length hi-HT.sIx its.length 0 lo)).toArray:=by
 obtain⟨h1,h2,h3⟩:=sG lo hi its.toArray.size
 unfold slicePick
 rw[h1,h2,h3]
 simp only[sliceRange_one,pick_run,List.size_toArray] <;> rfl
def rSlL(K:PySem.W.Frag):V→Option Int→Option Int→Hp→VK→Prop:=fun x lo hi H Q=>∃a xs,x=.ref a∧SqL K H a xs∧∀p,H p=none→Q (.ref p) (upd H p (.lst (cutV xs lo hi)))
theorem pC:SlR X (rSlL X.K):=by
 intro pins s σ H x v vl vu lo hi sl Q I rx hs pl pu h
 obtain⟨a,xs,rfl,hx,q⟩:=h
 cases rx
 obtain⟨its,r,ht,hz⟩:=I.list hx
 have hlen:=r.length
 refine⟨"list",_,slot_list_getitem.lookup,ht.isList.typeIs,?_⟩
 refine wpAny_getItem_list_slice ht.isList hs pl pu .none (by simp) ?_ (by rw[List.size_toArray] <;> lia)
 rw[qX,← hlen]
 refine⟨.ref s.heap.objs.size,_,I.laid (t':=s.toks) (o:=.lst (cutV xs lo hi)) (fun b ob q=>Heap.get?_push_of_some _ q) (Nat.le_refl _) ?_,rfl,q _ (I.hok.fresh (Nat.le_refl _))⟩
 exact⟨Nat.le_trans (vL xs lo hi) hz,_,0,(r.drop (HT.sIx xs.length 0 lo)).take (HT.sIx xs.length xs.length hi-HT.sIx xs.length 0 lo),Heap.get?_push_size _ rfl⟩
def cZ:V→Bool
 |.non=>true
 |.bl _=>true
 |.int _=>true
 |.str _=>true
 |_=>false
def eqV:V→V→Bool
 |.non,.non=>true
 |.bl a,.bl b=>a==b
 |.bl a,.int b=>(if a then 1 else 0)==b
 |.int a,.bl b=>a==(if b then 1 else 0)
 |.int a,.int b=>a==b
 |.str a,.str b=>a==b
 |_,_=>false
theorem nP{A:Around}{s:Shared}{y x:V}{u v:Value}(ry:RelV y u)(rx:RelV x v)(fy:cZ y=true)(fx:cZ x=true):SeqAt.EqAt A s u v (eqV y x):=by
 cases y with
 |non=>
  cases ry
  cases x with
  |non=>cases rx;exact SeqAt.EqAt.same _
  |bl b=>cases rx;exact SeqAt.EqAt.none_bool b
  |int b=>obtain⟨t,rfl⟩:=rx;exact SeqAt.EqAt.none_int b t
  |str b=>obtain⟨t,rfl⟩:=rx;exact SeqAt.EqAt.none_str b t
  |_=>exact absurd (show false=true from fx) Bool.false_ne_true
 |bl a=>
  cases ry
  cases x with
  |non=>cases rx;exact SeqAt.EqAt.bool_none a
  |bl b=>cases rx;exact SeqAt.EqAt.bool_bool a b
  |int b=>obtain⟨t,rfl⟩:=rx;exact SeqAt.EqAt.bool_int a b t
  |str b=>obtain⟨t,rfl⟩:=rx;exact SeqAt.EqAt.bool_str a b t
  |_=>exact absurd (show false=true from fx) Bool.false_ne_true
 |int a=>
  obtain⟨t',rfl⟩:=ry
  cases x with
  |non=>cases rx;exact SeqAt.EqAt.int_none a t'
  |bl b=>cases rx;exact SeqAt.EqAt.int_bool a t' b
  |int b=>obtain⟨t,rfl⟩:=rx;exact SeqAt.EqAt.int_int a t' b t
  |str b=>obtain⟨t,rfl⟩:=rx;exact SeqAt.EqAt.int_str a t' b t
  |_=>exact absurd (show false=true from fx) Bool.false_ne_true
 |str a=>
  obtain⟨t',rfl⟩:=ry
  cases x with
  |non=>cases rx;exact SeqAt.EqAt.str_none a t'
  |bl b=>cases rx;exact SeqAt.EqAt.str_bool a t' b
  |int b=>obtain⟨t,rfl⟩:=rx;exact SeqAt.EqAt.str_int a t' b t
  |str b=>obtain⟨t,rfl⟩:=rx;exact SeqAt.EqAt.str_str a t' b t
  |_=>exact absurd (show false=true from fx) Bool.false_ne_true
 |_=>exact absurd (show false=true from fy) Bool.false_ne_true
def eqU(x:V)(u:Value):Bool:=match u with
 |.none=>eqV .non x
 |.bool b=>eqV (.bl b) x
 |.int i _=>eqV (.int i) x
 |.str z _=>eqV (.str z) x
 |_=>false
theorem aAu{x y:V}{u:Value}(r:RelV y u)(f:cZ y=true):eqU x u=eqV y x:=by
 cases y with
 |non=>cases r;rfl
 |bl b=>cases r;rfl
 |int i=>obtain⟨t,rfl⟩:=r;rfl
 |str z=>obtain⟨t,rfl⟩:=r;rfl
 |_=>exact absurd (show false=true from f) Bool.false_ne_true
theorem iG{x:V}:∀ {xs:List V} {us:List Value},Vals xs us→xs.all cZ=true→us.any (eqU x)=xs.any fun y=>eqV y x
 |_,_,.nil,_=>rfl
 |y::xs,u::us,.cons r t,f=>by
  rw[List.all_cons,Bool.and_eq_true] at f
  rw[List.any_cons,List.any_cons,aAu r f.1,iG t f.2]
theorem fX{A:Around}{s:Shared}{x:V}{v:Value}(rx:RelV x v)(fx:cZ x=true):∀ {xs:List V} {us:List Value},Vals xs us→xs.all cZ=true→∀u∈us,SeqAt.EqAt A s u v (eqU x u)
 |_,_,.nil,_=>fun u hu=>by cases hu
 |y::xs,u::us,.cons r t,f=>fun u' hu=>by
  rw[List.all_cons,Bool.and_eq_true] at f
  rcases List.mem_cons.mp hu with rfl|hu
  ·rw[aAu r f.1];exact nP r rx f.1 fx
  ·exact fX rx fx t f.2 u' hu
def inV(x:V)(xs:List V):Bool:=xs.any fun y=>eqV y x
def rIn(K:PySem.W.Frag)(neg:Bool):R2:=fun x y H Q=>∃p xs,y=.ref p∧(SqL K H p xs∨SqT K H p xs)∧cZ x=true∧xs.all cZ=true∧Q (.bl (if neg then !inV x xs else inV x xs)) H
theorem aAv:OpR X (compareOp .In) (rIn X.K false):=by
 intro pins s σ H x y v u Q I rx ry h
 obtain⟨p,xs,rfl,hq,fx,fs,q⟩:=h
 cases ry
 rcases hq with hq|hq
 ·obtain⟨its,r,pl,hz⟩:=I.list hq
  refine SeqAt.in_listAt (eqU x) pl.isList (fun w hw=>fX rx fx r fs w (by simpa using hw)) ⟨.bl _,H,I,rfl,?_⟩
  rw[show its.toArray.any (eqU x)=its.any (eqU x) by simp,iG r fs]
  exact q
 ·obtain⟨its,r,pl,hz⟩:=I.tuple hq
  refine SeqAt.in_tupleAt (eqU x) pl (fun w hw=>fX rx fx r fs w (by simpa using hw)) ⟨.bl _,H,I,rfl,?_⟩
  rw[show its.toArray.any (eqU x)=its.any (eqU x) by simp,iG r fs]
  exact q
theorem sI:OpR X (compareOp .NotIn) (rIn X.K true):=by
 intro pins s σ H x y v u Q I rx ry h
 obtain⟨p,xs,rfl,hq,fx,fs,q⟩:=h
 cases ry
 rcases hq with hq|hq
 ·obtain⟨its,r,pl,hz⟩:=I.list hq
  refine SeqAt.notIn_listAt (eqU x) pl.isList (fun w hw=>fX rx fx r fs w (by simpa using hw)) ⟨.bl _,H,I,rfl,?_⟩
  rw[show its.toArray.any (eqU x)=its.any (eqU x) by simp,iG r fs]
  exact q
 ·obtain⟨its,r,pl,hz⟩:=I.tuple hq
  refine SeqAt.notIn_tupleAt (eqU x) pl (fun w hw=>fX rx fx r fs w (by simpa using hw)) ⟨.bl _,H,I,rfl,?_⟩
  rw[show its.toArray.any (eqU x)=its.any (eqU x) by simp,iG r fs]
  exact q
theorem bC:cU X (.builtin "len") (fun xs H Q=>∃p ys,xs=[.ref p]∧(SqL X.K H p ys∨SqT X.K H p ys)∧Q (.int ys.length) H):=by
 intro pins s σ H xs us Q I r h
 obtain⟨p,ys,rfl,hq,q⟩:=h
 obtain⟨u,rfl,rx⟩:=rE r
 cases rx
 have hn:=nM
 rcases hq with hq|hq
 ·obtain⟨its,r',pl,hz⟩:=I.list hq
  have hlen:=r'.length
  exact Calls.call_len_list pl.isList (by simp only[List.size_toArray] <;> lia) ⟨.int ys.length,H,I.tok _,⟨s.toks+1,by rw[List.size_toArray,hlen]⟩,q⟩
 ·obtain⟨its,r',pl,hz⟩:=I.tuple hq
  have hlen:=r'.length
  exact len_tuple pl (by simp only[List.size_toArray] <;> lia) ⟨.int ys.length,H,I.tok _,⟨s.toks+1,by rw[List.size_toArray,hlen]⟩,q⟩
theorem sJ:cU X (.type "list") (fun xs H Q=>∃p ys,xs=[.ref p]∧(SqL X.K H p ys∨SqT X.K H p ys)∧∀l,H l=none→Q (.ref l) (upd H l (.lst ys))):=by
 intro pins s σ H xs us Q I r h
 obtain⟨p,ys,rfl,hq,q⟩:=h
 obtain⟨u,rfl,rx⟩:=rE r
 cases rx
 have fin:∀ (its:List Value),Vals ys its→ys.length≤sizeLine→∀ (h':Heap) (c':Nat),(∀b o',s.heap.get? b=some o'→h'.get? b=some o')→
   h'.get? s.heap.objs.size=some { cls:=.type "list",dict:=none,data:=.seq its.toArray c',slots:=#[] }→EP X pins σ Q (.ref s.heap.objs.size) { s with heap:=h' }:=fun its r' hz h' c' kp e=>
  ⟨.ref s.heap.objs.size,_,I.laid (t':=s.toks) kp (Nat.le_refl _) (show bU X.prog X.w _ h' _ (.lst ys) from ⟨hz,its,c',r',e⟩),rfl,q _ (I.hok.fresh (Nat.le_refl _))⟩
 rcases hq with hq|hq
 ·obtain⟨its,r',pl,hz⟩:=I.list hq
  have hlen:=r'.length
  obtain⟨o,ho,hc,n,hd⟩:=pl.isList
  exact call_list_seq p (.inl rfl) ho hc hd (fun h' c' kp e=>fin its r' hz h' c' kp e) (by simp only[List.size_toArray] <;> lia)
 ·obtain⟨its,r',pl,hz⟩:=I.tuple hq
  have hlen:=r'.length
  obtain⟨o,ho,hc,n,hd⟩:=pl
  exact call_list_seq p (.inr rfl) ho hc hd (fun h' c' kp e=>fin its r' hz h' c' kp e) (by simp only[List.size_toArray] <;> lia)
theorem eT:cU X (.type "tuple") (fun xs H Q=>∃p ys,xs=[.ref p]∧((SqL X.K H p ys∧∀l,H l=none→Q (.ref l) (upd H l (.tup ys)))∨(SqT X.K H p ys∧Q (.ref p) H))):=by
 intro pins s σ H xs us Q I r h
 obtain⟨p,ys,rfl,h⟩:=h
 obtain⟨u,rfl,rx⟩:=rE r
 cases rx
 rcases h with ⟨hq,q⟩|⟨hq,q⟩
 ·obtain⟨its,r',pl,hz⟩:=I.list hq
  have hlen:=r'.length
  refine call_tuple_list pl.isList (fun h' kp=>?_) (by simp only[List.size_toArray] <;> lia)
  have I1:Inv X pins σ H { s with heap:=h' }:=I.kept (t':=s.toks) kp
  have I2:Inv X pins σ (upd H h'.objs.size (.tup ys)) { s with heap:=h'.push { cls:=.type "tuple",data:=.seq its.toArray } }:=
   I1.laid (t':=s.toks) (fun b o e=>Heap.get?_push_of_some _ e) (Nat.le_refl _) (show bU X.prog X.w _ _ _ (.tup ys) from ⟨hz,its,r',jF.new _ _⟩)
  exact⟨.ref h'.objs.size,_,I2,rfl,q _ (I1.hok.fresh (Nat.le_refl _))⟩
 ·obtain⟨its,r',pl,hz⟩:=I.tuple hq
  exact call_tuple_same pl ⟨.ref p,H,I,rfl,q⟩
def tyV(K:PySem.W.Frag)(T:String)(x:V)(H:Hp):Prop:=match x with
 |.str _=>T="str"
 |.int _=>T="int"
 |.ref p=>(T="list"∧∃xs,SqL K H p xs)∨(T="tuple"∧∃o,K.lookup p=some o∧o.cls=.type "tuple"∧o.dict=none)∨
   (T="dict"∧((∃kvs,H p=some (.dK kvs))∨∃kvs,H p=some (.dT kvs)))∨(T="set"∧∃S n,H p=some (.set S n))
 |_=>False
theorem aDY{pins:List (Addr×Obj)}{σ:St}{H:Hp}{s:Shared}{T:String}{x:V}{v:Value}(I:Inv X pins σ H s)(r:RelV x v)(ty:tyV X.K T x H):
  s.TypeIs v T∧∀a,v=.ref a→∃ob,s.heap.get? a=some ob∧ob.dict=none:=by
 cases x with
 |str z=>
  obtain⟨t,rfl⟩:=r
  cases (show T="str" from ty)
  exact⟨typeIs_str s z t,fun _ e=>nomatch e⟩
 |int i=>
  obtain⟨t,rfl⟩:=r
  cases (show T="int" from ty)
  exact⟨typeIs_int s i t,fun _ e=>nomatch e⟩
 |ref p=>
  cases r
  rcases ty with ⟨rfl,xs,hq⟩|⟨rfl,o,hk,hc,hd⟩|⟨rfl,hk⟩|⟨rfl,S,n,hk⟩
  ·obtain⟨its,_,pl,_⟩:=I.list hq
   refine⟨pl.isList.typeIs,fun a e=>?_⟩
   cases e
   obtain⟨o,n,e,c,hd,_⟩:=pl
   exact⟨o,e,hd⟩
  ·refine⟨⟨o,I.kIn p o hk,hc⟩,fun a e=>?_⟩
   cases e
   exact⟨o,I.kIn _ o hk,hd⟩
  ·have z:∃o,s.heap.get? p=some o∧o.ExactDict:=by
    rcases hk with ⟨kvs,hk⟩|⟨kvs,hk⟩
    ·obtain⟨_,_,_,_,o,_,_,e,ex,_⟩:=I.hok p _ hk
     exact⟨o,e,ex⟩
    ·obtain⟨_,_,_,_,o,_,_,e,ex,_⟩:=I.hok p _ hk
     exact⟨o,e,ex⟩
   obtain⟨o,e,ex⟩:=z
   refine⟨⟨o,e,ex.1⟩,fun a e2=>?_⟩
   cases e2
   exact⟨o,e,ex.2.1⟩
  ·obtain⟨o,_,_,_,e,ex,_⟩:=I.hok p _ hk
   refine⟨⟨o,e,ex.1⟩,fun a e2=>?_⟩
   cases e2
   exact⟨o,e,ex.2.1⟩
 |_=>exact False.elim ty
def tBM(K:PySem.W.Frag)(T:String)(r:V→List V→Hp→VK→Prop)(to:TE)(t:TA):TE:=fun σ H Q=>to σ H fun x H1=>tyV K T x H1∧t σ H1 fun xs H2=>r x xs H2 Q
variable {o e:Expr} {es:List Expr} {to:TE} {t:TA} {name:Str} {apos cpos:Pos} {T id:String} {r:V→List V→Hp→VK→Prop}
theorem dA(pa:PlainAttrs T)(slot:Slot T name id)(hty:typeOf (.builtin id)=pure (.type "method_descriptor"))(hm:MtR X id r)(ho:PE X o to)(ha:PA X (e::es) t)(hbase:attributeBase o name X.env (eval o X.env)=eval o X.env:=by rfl)(hfew:((backTo cpos (starEach (e::es) X.env)).all (fun x=>!x.1)&&(backToKw cpos (keywordEach [] X.env)).all (fun x=>x.1.isSome)
   && decide ((e::es).length+([]:List Keyword).length+(if ([]:List Keyword).isEmpty then 0 else 1)<30))=true:=by rfl)(hline:(apos.endLine==cpos.line)=true:=by rfl)(hs:starEach (e::es) X.env=(false,eval e X.env)::starEach es X.env:=by rfl)(hplain:(backTo cpos (starEach es X.env)).any (·.1)=false:=by rfl):
  PE X (.Call (.Attribute o name apos) (e::es) [] cpos) (tBM X.K T r to t):=by
 intro pins s σ H Q I h
 refine wpAny_Call_method_late hbase hfew hline rfl (thn (ho pins s σ H _ I h) fun v s1 ⟨x,H1,I1,r1,ty,q1⟩=>?_)
 obtain⟨h1,h2⟩:=aDY I1 r1 ty
 refine⟨T,id,pa,slot,hty,h1,h2,?_⟩
 have hA:=ha cpos pins s1 σ H1 _ I1 q1
 rw[hs] at hA ⊢
 refine Calls.callWith_builtin (by show (false||(backTo cpos (starEach es X.env)).any (·.1))=false;rw[hplain] <;> rfl) (Calls.evalArgs_plain ?_)
 exact thn hA fun us s2 ⟨vs,H2,I2,r2,q2⟩=>hm pins s2 σ H2 x vs v us Q I2 r1 r2 q2
end
end L2
namespace L2
open PySem PySem.Spec PyProof.Rows
def MtM(X:Cx)(id:String)(r:V→List V→Hp→VK→Prop):Prop:=
 ∀ (pins:List (Addr×Obj)) (s:Shared) (σ:St) (H:Hp) (x:V) (xs:List V) (v:Value) (us:List Value) (Q:VK),Inv X pins σ H s→RelV x v→Vals xs us→r x xs H Q→
  wpAny (model X.prog X.w) X.A (call (.builtin id) (v::us)) (EP X pins σ Q) X.xe s
theorem Vals.one:∀ {x:V} {us:List Value},Vals [x] us→∃u,us=[u]∧RelV x u
 |_,_,.cons r .nil=>⟨_,rfl,r⟩
theorem Vals.two:∀ {x y:V} {us:List Value},Vals [x,y] us→∃u v,us=[u,v]∧RelV x u∧RelV y v
 |_,_,_,.cons r (.cons q .nil)=>⟨_,_,rfl,r,q⟩
theorem Vals.eraseIdx:∀ {xs:List V} {us:List Value} (i:Nat),Vals xs us→Vals (xs.eraseIdx i) (us.eraseIdx i)
 |_,_,_,.nil=>.nil
 |_,_,0,.cons _ t=>t
 |_,_,i+1,.cons r t=>.cons r (Vals.eraseIdx i t)
theorem Vals.rep{xs:List V}{us:List Value}(h:Vals xs us):∀k:Nat,Vals (List.replicate k xs).flatten (List.replicate k us).flatten
 |0=>.nil
 |k+1=>by
  rw[List.replicate_succ,List.replicate_succ,List.flatten_cons,List.flatten_cons]
  exact Vals.append h (Vals.rep h k)
theorem qF{α:Type}:∀ (l:List α) (i:Nat),(l.eraseIdx i).length≤l.length
 |[],_=>Nat.le_refl _
 |_::_,0=>Nat.le_succ _
 |_::r,i+1=>Nat.succ_le_succ (qF r i)
theorem qG(its:List Value):∀ (k:Nat) (acc:List Value),
  List.foldl (fun x1 x2=>x1++x2) acc.toArray (List.replicate k its.toArray)=(acc++(List.replicate k its).flatten).toArray
 |0,acc=>by simp
 |k+1,acc=>by
  have e:acc.toArray++its.toArray=(acc++its).toArray:=by simp
  have e2:(acc++its)++(List.replicate k its).flatten=acc++(List.replicate (k+1) its).flatten:=by
   rw[List.replicate_succ,List.flatten_cons,List.append_assoc]
  rw[← e2,← qG its k (acc++its),← e,List.replicate_succ,List.foldl_cons]
section
variable {X:Cx} {pins:List (Addr×Obj)} {σ:St} {H:Hp} {s:Shared} {l b:Addr} {xs ys zs:List V}
theorem Inv.lset{its its':List Value}{n:Nat}{f:Array Value→Array Value}{t':Nat}(I:Inv X pins σ H s)(hH:H l=some (.lst xs))(e:s.heap.get? l=some { cls:=.type "list",data:=.seq its.toArray n })(hf:f its.toArray=its'.toArray)(hv:Vals ys its')(hz:ys.length≤sizeLine):
  Inv X pins σ (upd H l (.lst ys)) { s with heap:=s.heap.update l (Obj.mapSeq f),toks:=t' }:=by
 have q:=PySem.IsL.update e f
 rw[hf] at q
 refine I.write (x:=l) (e:=l) (by rw[hH];exact trivial) (.inl rfl) (fun b' u hb hu=>(Heap.get?_update_other s.heap (Obj.mapSeq f) (Ne.symm hb)).trans hu) ⟨_,q⟩ ?_
 exact⟨hz,its',_,hv,q⟩
theorem Inv.lnew{its:List Value}{t':Nat}(I:Inv X pins σ H s)(hv:Vals ys its)(hz:ys.length≤sizeLine):
  Inv X pins σ (upd H s.heap.objs.size (.lst ys)) { s with heap:=s.heap.push { cls:=.type "list",data:=.seq its.toArray },toks:=t' }:=
 I.laid (fun _ _ q=>Heap.get?_push_of_some _ q) (Nat.le_refl _) ⟨hz,its,0,hv,Heap.get?_push_size _ rfl⟩
theorem Inv.fresh(I:Inv X pins σ H s):H s.heap.objs.size=none:=I.hok.fresh (Nat.le_refl _)
theorem Inv.lstM(I:Inv X pins σ H s)(hH:H l=some (.lst xs)):xs.length≤sizeLine∧∃ (its:List Value) (n:Nat),Vals xs its∧xs.length=its.length∧s.heap.get? l=some { cls:=.type "list",data:=.seq its.toArray n }:=by
 obtain⟨z,its,n,r,e⟩:=I.hok l _ hH
 exact⟨z,its,n,r,r.length,e⟩
theorem sM{n:Nat}(h:n≤sizeLine):Builtin.List.listTooLong n=false:=by
 unfold Builtin.List.listTooLong
 exact decide_eq_false (by lia)
end
section
variable {X:Cx}
def aCO:V→List V→Hp→VK→Prop:=fun x vs H Q=>∃l xs y,x=.ref l∧vs=[y]∧H l=some (.lst xs)∧xs.length<sizeLine∧Q .non (upd H l (.lst (xs++[y])))
theorem cE:MtM X "list.append" aCO:=by
 intro pins s σ H x vs v us Q I rx rv h
 obtain⟨l,xs,y,rfl,rfl,hH,hz,q⟩:=h
 cases rx
 obtain⟨u,rfl,ru⟩:=rv.one
 obtain⟨z,its,n,r,hl,e⟩:=I.lstM hH
 refine call_meets F.slot_list_append ⟨_,e,rfl⟩ F.entry_list_append (F.args_list_append_2 _ _) (PySem.list_append l its.toArray n u (by rw[List.size_toArray];lia)) ⟨e,?_⟩
 refine⟨.non,_,I.lset (its':=its++[u]) hH e (by simp) (r.append (.cons ru .nil)) ?_,rfl,q⟩
 rw[List.length_append,List.length_singleton]
 lia
def aCP:V→List V→Hp→VK→Prop:=fun x vs H Q=>∃l b xs zs,x=.ref l∧vs=[.ref b]∧H l=some (.lst xs)∧H b=some (.lst zs)∧xs.length+zs.length≤sizeLine∧Q .non (upd H l (.lst (xs++zs)))
theorem aAw:MtM X "list.extend" aCP:=by
 intro pins s σ H x vs v us Q I rx rv h
 obtain⟨l,b,xs,zs,rfl,rfl,hH,hB,hz,q⟩:=h
 cases rx
 obtain⟨u,rfl,ru⟩:=rv.one
 cases ru
 obtain⟨z,its,n,r,hl,e⟩:=I.lstM hH
 obtain⟨z2,its2,n2,r2,hl2,e2⟩:=I.lstM hB
 have hsz:its.toArray.size+its2.toArray.size≤sizeLine:=by rw[List.size_toArray,List.size_toArray];lia
 have hlong:¬ (!its.toArray.isEmpty&&Builtin.List.listTooLong (its.toArray.size+its2.toArray.size))=true:=by
  rw[sM hsz,Bool.and_false]
  exact Bool.false_ne_true
 refine call_meets F.slot_list_extend ⟨_,e,rfl⟩ F.entry_list_extend (F.args_list_extend_2 _ _)
  (AutoSeq1.list_extend_list_list_0 l its.toArray n b its2.toArray n2 hlong (by rw[List.size_toArray];lia) (by lia)) ⟨e,e2,?_⟩
 refine⟨.non,_,I.lset (its':=its++its2) hH e (by simp) (r.append r2) ?_,rfl,q⟩
 rw[List.length_append]
 lia
def aAx:V→List V→Hp→VK→Prop:=fun x vs H Q=>∃l xs i k y,x=.ref l∧vs=[.int i]∧H l=some (.lst xs)∧-(2 ^ 63)≤i∧i<2 ^ 63∧seqIndex? i xs.length=some k∧xs[k]?=some y∧Q y (upd H l (.lst (xs.eraseIdx k)))
theorem sO:MtM X "list.pop" aAx:=by
 intro pins s σ H x vs v us Q I rx rv h
 obtain⟨l,xs,i,k,y,rfl,rfl,hH,h1,h2,hk,hy,q⟩:=h
 cases rx
 obtain⟨u,rfl,ru⟩:=rv.one
 obtain⟨t,rfl⟩:=ru
 obtain⟨z,its,n,r,hl,e⟩:=I.lstM hH
 obtain⟨w,hw,rw'⟩:=r.get hy
 refine call_meets F.slot_list_pop ⟨_,e,rfl⟩ F.entry_list_pop (F.args_list_pop_2 _ _)
  (MeetsSeq.list_pop_at l its.toArray n i t k w (fitsIndex_both h1 h2) (by rw[List.size_toArray,← hl];exact hk) (by rw[← Array.getElem?_toList];exact hw) (by rw[List.size_toArray];lia)) ⟨e,?_⟩
 refine⟨y,_,I.lset (its':=its.eraseIdx k) hH e ?_ (r.eraseIdx k) ?_,rw',q⟩
 ·show its.toArray.eraseIdxIfInBounds k=(its.eraseIdx k).toArray
  rw[List.eraseIdxIfInBounds_toArray]
 ·have:=qF xs k
  lia
def rCat:R2:=fun x y H Q=>∃l b xs zs,x=.ref l∧y=.ref b∧H l=some (.lst xs)∧H b=some (.lst zs)∧xs.length+zs.length≤sizeLine∧∀p,H p=none→Q (.ref p) (upd H p (.lst (xs++zs)))
theorem kP:OpR X (binaryOp .Add) rCat:=by
 intro pins s σ H x y v u Q I rx ry h
 obtain⟨l,b,xs,zs,rfl,rfl,hH,hB,hz,q⟩:=h
 cases rx
 cases ry
 obtain⟨z,its,n,r,hl,e⟩:=I.lstM hH
 obtain⟨z2,its2,n2,r2,hl2,e2⟩:=I.lstM hB
 refine PySem.P.add_list e e2 ?_ (by rw[List.size_toArray,List.size_toArray];lia)
 have ea:its.toArray++its2.toArray=(its++its2).toArray:=by simp
 rw[ea]
 exact⟨.ref _,_,I.lnew (t':=s.toks) (r.append r2) (by rw[List.length_append];lia),rfl,q _ I.fresh⟩
def rRep:R2:=fun x y H Q=>∃l k xs,x=.ref l∧y=.int k∧H l=some (.lst xs)∧-(2 ^ 63)≤k∧k<2 ^ 63∧xs.length*k.toNat≤sizeLine∧
 ∀p,H p=none→Q (.ref p) (upd H p (.lst (List.replicate k.toNat xs).flatten))
theorem aCQ{α:Type}(xs:List α)(k:Nat):(List.replicate k xs).flatten.length=k*xs.length:=by
 induction k with
 |zero=>simp
 |succ k ih=>rw[List.replicate_succ,List.flatten_cons,List.length_append,ih,Nat.succ_mul,Nat.add_comm]
theorem nQ:OpR X (binaryOp .Mult) rRep:=by
 intro pins s σ H x y v u Q I rx ry h
 obtain⟨l,k,xs,rfl,rfl,hH,h1,h2,hz,q⟩:=h
 cases rx
 obtain⟨t,rfl⟩:=ry
 obtain⟨z,its,n,r,hl,e⟩:=I.lstM hH
 have hlen:its.toArray.size*k.toNat≤sizeLine:=by rw[List.size_toArray,← hl];exact hz
 have hcap:¬ its.toArray.size*k.toNat > (2 ^ 63-1) / 8:=by
  have:(sizeLine:Nat)≤(2 ^ 63-1) / 8:=by decide
  lia
 have hfit:¬ (!Builtin.List.listFitsIndex k)=true:=by
  rw[fitsIndex_both h1 h2]
  exact Bool.false_ne_true
 have hlong:¬ Builtin.List.listTooLong (its.toArray.size*k.toNat)=true:=by
  rw[sM hlen]
  exact Bool.false_ne_true
 have hnew:List.foldl (fun x1 x2=>x1++x2) #[] (List.replicate (if its.toArray.isEmpty=true then 0 else k.toNat) its.toArray)=(List.replicate k.toNat its).flatten.toArray:=by
  have f0:∀m:Nat,List.foldl (fun x1 x2=>x1++x2) #[] (List.replicate m its.toArray)=(List.replicate m its).flatten.toArray:=fun m=>by
   have:=qG its m []
   rw[List.nil_append] at this
   exact this
  rw[f0]
  cases its with
  |nil=>simp
  |cons a r'=>rw[if_neg (by simp)]
 refine wpAny_binaryOp_repeat_ref (T:="list") (U:="int") (by decide) ⟨_,e,rfl⟩ (fun s'=>typeIs_int s' k t) noFill_list_mul F.fills_int_mul F.slot_int_rmul repeat_list F.slot_int_index.lookup
  (call_meets F.slot_int_rmul (typeIs_int s k t) F.entry_int_rmul (F.args_int_rmul_2 _ _) (int___rmul___int_list k t l its.toArray n)
   ⟨e,rfl,⟨_,e,rfl⟩,call_meets F.slot_list_mul ⟨_,e,rfl⟩ F.entry_list_mul (F.args_list_mul_2 _ _) (AutoListH.list___mul___list_int_3 l its.toArray n k t hfit hcap hlong) ⟨e,?_⟩⟩)
 rw[hnew]
 exact⟨.ref _,_,I.lnew (t':=s.toks) (r.rep k.toNat) (by rw[aCQ,Nat.mul_comm];exact hz),rfl,q _ I.fresh⟩
end
section
variable {prog:Program} {w:World} {A:Around} {E:Value→Shared→Prop} {s:Shared}
end
section
variable {X:Cx}
end
end L2
namespace Att
open PySem PySem.W PySem.Calls PyProof.Rows
theorem nR{P:Params}{h:Heap}:∀ (ns:List Int) (vs:List Value),WellAll P h vs (ns.map WData.int)→IntsAre vs ns:=by
 intro ns
 induction ns with
 |nil=>
  intro vs w
  rw[List.map_nil] at w
  cases w
  exact .nil
 |cons n ns ih=>
  intro vs w
  rw[List.map_cons] at w
  cases w with
  |cons a b=>
   cases a
   exact .cons _ _ (ih _ b)
theorem aAy{l:OpenLaw}{n:Nat}(hn:l.most=some n){P:Params}{h:Heap}{args:List WData}{vals:List Value}(hpre:l.row.toRowW.claim.pre args=true)(hwl:WellAll P h vals args):
  ∃a vs ns,vals=[Value.ref a]∧args=[WData.list (ns.map WData.int)]∧h.get? a=some { cls:=.type "list",data:=.seq vs.toArray }∧IntsAre vs ns∧ns.length≤n:=by
 have hsh:WShape.hasAll [] args [.list .int]=true:=(pre_splitW hpre).1
 have hc:l.pre.holds [] { args:=args }=true:=(pre_splitW hpre).2
 obtain⟨d,r,rfl,h1,h2⟩:=hasAllW_cons hsh
 obtain rfl:=hasAllW_nil h2
 obtain⟨xs,rfl,h3⟩:=hasW_list h1
 obtain⟨ns,rfl⟩:=items_int h3
 have hlen:ns.length≤n:=by
  unfold OpenLaw.pre at hc
  have h4:(WTm.not (.lt (.lit (.int (n:Int))) (.len (.arg 0)))).holds [] { args:=[.list (ns.map .int)] }=true:=by
   have h4:=(holds_andW hc).1
   rw[hn] at h4
   exact h4
  have h5:=condW_of h4 (w_not (w_lt w_lit (w_len_list (w_arg rfl))))
  rw[List.length_map] at h5
  refine Nat.le_of_not_lt fun q=>?_
  have q':(n:Int)<((ns.length:Nat):Int):=by lia
  first
   |(rw[decide_eq_true q'] at h5;exact absurd h5 (by decide))
   |(simp at h5;lia)
 cases hwl with
 |cons w1 w2=>
  cases w2
  cases w1 with
  |list ho hall=>exact⟨_,_,ns,rfl,rfl,ho,nR ns _ hall,hlen⟩
theorem aAz(l:OpenLaw)(args:List WData):l.row.toRowW.claim.post args (.bool true) args=true:=
 postW_of (r:=l.row.toRowW) (X:=(true==true))
  (show WShape.has [] (.bool true) .bool=true by first|rfl|decide|simp[WShape.has,WShape.arms,WShape.armsAll])
  (show (WTm.eq .res (.lit (.bool true))).value [] { args:=args,res:=some (.bool true),after:=args }=some (.bool (true==true)) from w_eq_bool (w_res rfl) w_lit) rfl
theorem attach_call{l:OpenLaw}{n:Nat}{q:Program}{loose:List Str}{XP:(Str→Option Value)→Heap→Prop}{YP:World→Heap→Prop}{d:DefRec}(hn:l.most=some n)(hdf:d.params.defaults=[])(call:∀ (w:World) (s₀ s₁:Shared) (mg mb:Str→Option Value) (fa:Addr) (o:Obj) (pm cd doc:Value) (a:Addr) (vs:List Value) (ns:List Int),
   Ground q loose [] XP w s₀ mg mb s₁.heap→YP w s₁.heap→
   s₁.heap.get? fa=some o→o.data=.func (docDef d.name d.params d.body d.scope pm cd doc)→s₁.heap.CodeRec cd d.name→mg d.name=some (.ref fa)→
   s₁.heap.get? a=some { cls:=.type "list",data:=.seq vs.toArray }→IntsAre vs ns→ns.length≤n→s₁.gens=#[]→
   codeAny (model l.prog w) callerA (.call (.ref fa) ⟨[.ref a],[]⟩) (fun r s'=>r=.ok (.ret (.bool true))∧OldK s₁.heap s'.heap∧s'.os=s₁.os∧AllBare s'.gens) s₁):
  WalkO q loose XP YP l.row.toRowW d [] (fun f vs=>PySem.call f vs):=by
 intro w s₀ s₁ mg mb G Y fa o pm cd doc dV kV ho hd hcd hD hmg hg args vals as hpre hlay hrd hwl hlo
 obtain rfl:dV=.none:=Dflts.none hD hdf
 obtain rfl:kV=.none:=Dflts.noKw hD
 obtain⟨a,vs,ns,rfl,rfl,hobj,hints,hlen⟩:=aAy hn hpre hwl
 refine enter_call (codeAny_mono (call w s₀ s₁ mg mb fa o pm cd doc a vs ns G Y ho (fd_plain hd) hcd hmg hobj hints hlen hg) fun r s' hq=>?_)
 obtain⟨rfl,h2,h3,h4⟩:=hq
 exact⟨.inl ⟨.bool true,.bool true,[],rfl,fun _=>rfl,.bool true,aAz l _,fun _=>⟨List.Pairwise.nil,fun _ hm=>(nomatch hm)⟩⟩,h2,h3,h4⟩
section
variable {prog:Program} {w:World} {A:Around} {E:Value→Shared→Prop} {s:Shared} {K:Frag}
end
end Att
namespace L2
open PySem PySem.Spec PyProof.Rows
theorem qH:∀ {vs:List Value} {ns:List Int},IntsAre vs ns→Vals (ns.map V.int) vs
 |_,_,.nil=>.nil
 |_,_,.cons n t h=>.cons ⟨t,rfl⟩ (qH h)
end L2
namespace L2
open PySem PySem.Spec PyProof.Rows
end L2
namespace L2
open PySem PySem.Spec PyProof.Rows
def iH(s:Stmt)(j:Nat):Stmt:=match s with
 |.ClassDef _ _ _ body _ _ _ _ _ _ _=>body.getD j (.Pass ⟨0,0,0,0⟩)
 |_=>.Pass ⟨0,0,0,0⟩
def cS(s:Stmt):Arguments:=match s with
 |.FunctionDef _ a _ _ _ _ _ _ _ _=>a
 |_=>{ posonlyargs:=[],args:=[],vararg:=none,kwonlyargs:=[],kw_defaults:=[],kwarg:=none,defaults:=[] }
def cB(s:Stmt):List Stmt:=match s with
 |.FunctionDef _ _ b _ _ _ _ _ _ _=>b
 |_=>[]
def aL(s:Stmt):Scope:=match s with
 |.FunctionDef _ _ _ _ _ _ sc _ _ _=>sc
 |_=>{ kind:=.function,names:=[],isGenerator:=false,isCoroutine:=false }
abbrev CX0:CXT:=fun _ _ _ _ _ _=>False
abbrev E0:XK:=fun _ _ _=>False
theorem aQ{X:Cx}:iM CX0 X E0:=fun _ _ _ _ _ _ _ h=>h.elim
structure Fun(K:PySem.W.Frag)(x qual:Str)(st:Stmt)(f:Addr)(fd:FuncData):Prop where
 ex:∃ (oc:Value) (od:Option Addr) (kV doc pm:Value) (an:Option Addr) (cdv ct:Value) (osl:Array (Option Value)),
  fd=PySem.W.fnOf x qual (cS st) (cB st) (aL st) .none kV doc pm an cdv ct∧K.lookup f=some ⟨oc,od,.func fd,osl⟩∧PySem.W.codeIn K cdv qual=true
 kp:PySem.W.keepIn K (.ref f)=true
section
variable {P:Program} {w:World} {K:PySem.W.Frag} {mg:Str→Option Value} {base:Heap}
theorem Fun.ok{x qual:Str}{st:Stmt}{f:Addr}{fd:FuncData}{N ps:List Str}{k:Nat}{sp:Sp}(F:Fun K x qual st f fd)(S:aW N ps (aL st))(len:∀vs H Q E,sp vs H Q E→vs.length=ps.length)(hbody:∀ (cdv:Value) (A:Around) (outer:List Env) (s:Shared) (H:Hp) (vs:List V) (Q:VK) (E:XK),Room k (A.deeper (envOfC qual (aL st) s.heap.objs.size f cdv))→sp vs H Q E→
   ∃t,PSs (cxOf CX0 P w K mg base N qual (aL st) f cdv A outer s H E).nox (cB st) t∧t { nx:=fun _ H'=>Q .non H',rt:=Q } (start N vs) H):FnOk P w K mg base CX0 (k+1) f fd ps sp:=by
 obtain⟨oc,od,kV,doc,pm,an,cdv,ct,osl,rfl,lk,hcd⟩:=F.ex
 refine aCq lk hcd S len fun A outer s H vs Q E hr hsp=>?_
 obtain⟨t,h,q⟩:=hbody cdv A outer s H vs Q E hr hsp
 exact⟨t,h.nox,q⟩
theorem Fun.binds{x qual:Str}{st:Stmt}{f:Addr}{fd:FuncData}{ps:List Str}(F:Fun K x qual st f fd)(h:∀ (kV doc pm:Value) (an:Option Addr) (cdv ct:Value) (us:List Value),us.length=ps.length→bindArgs (PySem.W.fnOf x qual (cS st) (cB st) (aL st) .none kV doc pm an cdv ct) ⟨us,[]⟩=pure (ps.zip us)):fL K fd ps []:=by
 obtain⟨oc,od,kV,doc,pm,an,cdv,ct,osl,rfl,lk,hcd⟩:=F.ex
 exact .all (h kV doc pm an cdv ct)
theorem nU{x qual:Str}{st:Stmt}{f:Addr}{oc:Value}{od an:Option Addr}{osl:Array (Option Value)}{kV doc pm cdv ct:Value}(l:K.lookup f=some ⟨oc,od,.func (PySem.W.fnOf x qual (cS st) (cB st) (aL st) .none kV doc pm an cdv ct),osl⟩)(c:PySem.W.codeIn K cdv qual=true)(k:PySem.W.keepIn K (.ref f)=true):Fun K x qual st f (PySem.W.fnOf x qual (cS st) (cB st) (aL st) .none kV doc pm an cdv ct):=⟨⟨oc,od,kV,doc,pm,an,cdv,ct,osl,rfl,l,c⟩,k⟩
end
section
variable {X:Cx}
theorem pv(i:Nat){x:Str}{pos:Pos}(hN:X.N[i]?=some x:=by rfl)(hv:Vis X.env.scope x:=by first|exact Or.inl rfl|exact Or.inr (Or.inl rfl)|exact Or.inr (Or.inr rfl))(hd:(x==("__debug__":Str))=false:=by decide)(hcd:(x==("__classdict__":Str))=false:=by decide):PE X (.Name x pos) (tVar i):=aDR hN hv hd hcd
end
theorem iteF{A B:Prop}(h:B):if false=true then A else B:=by
 rw[if_neg Bool.false_ne_true]
 exact h
theorem iteT{A B:Prop}(h:A):if true=true then A else B:=by
 rw[if_pos rfl]
 exact h
theorem ite2{c A B:Prop}[Decidable c](h1:c→A)(h2:¬ c→B):if c then A else B:=by
 by_cases h:c
 ·rw[if_pos h]
  exact h1 h
 ·rw[if_neg h]
  exact h2 h
def Same(H H':Hp):Prop:=∀b o,H b=some o→H' b=some o
theorem Same.refl(H:Hp):Same H H:=fun _ _ h=>h
theorem Same.trans{H H1 H2:Hp}(a:Same H H1)(b:Same H1 H2):Same H H2:=fun c o h=>b c o (a c o h)
theorem Same.free{H H':Hp}(e:Same H H'){l:Addr}(h:H' l=Option.none):H l=Option.none:=by
 cases q:H l with
 |none=>rfl
 |some o=>
  rw[e l o q] at h
  cases h
end L2
namespace L2
open PySem PySem.Spec PyProof.Rows
def cSt(src:List (Option Nat))(σ:St):St:=src.map fun o=>match o with|some j=>σ.getD j none|none=>none
theorem aCR{src:List (Option Nat)}{σ:St}{i:Nat}{v:V}(h:(cSt src σ)[i]?=some (some v)):∃j,src[i]?=some (some j)∧σ[j]?=some (some v):=by
 unfold cSt at h
 rw[List.getElem?_map] at h
 cases e:src[i]? with
 |none=>rw[e] at h;cases h
 |some o=>
  rw[e] at h
  cases o with
  |none=>cases h
  |some j=>
   refine⟨j,rfl,?_⟩
   have h':σ.getD j none=some v:=Option.some.inj h
   rw[List.getD_eq_getElem?_getD] at h'
   cases e2:σ[j]? with
   |none=>rw[e2] at h';cases h'
   |some o=>rw[e2] at h';rw[show o=some v from h']
structure eV(NB:List Str)(src:List (Option Nat))(scope:Scope)(X:Cx):Prop where
 kind:scope.kind=.function
 nd:NB.Nodup
 len:src.length=NB.length
 cells:∀y∈scope.names,y.2=.cell→scope.names.lookup y.1=some .cell
 names:∀y∈scope.names,y.2=.local→scope.names.lookup y.1=some .local
 free:∀y∈scope.names,y.2=.free→X.env.scope.names.lookup y.1=some .cell∨X.env.scope.names.lookup y.1=some .free
 src:∀ (i:Nat) (x:Str) (j:Nat),NB[i]?=some x→src[i]?=some (some j)→X.N[j]?=some x∧scope.names.lookup x=some .free
def pD(scope:Scope)(x:Str):Bool:=match scope.names.lookup x with
 |some .cell=>true
 |_=>false
theorem vM{scope:Scope}{x:Str}:pD scope x=true↔scope.names.lookup x=some .cell:=by
 unfold pD
 split
 ·rename_i h;exact⟨fun _=>h,fun _=>rfl⟩
 ·rename_i h;exact⟨fun z=>(by cases z),fun z=>absurd z h⟩
def blk(X:Cx)(NB:List Str)(scope:Scope)(cl:List (Str×Addr))(C:Addr)(s₃:Shared)(H₃:Hp)(fp:List Addr):Cx:=
 { X with N:=NB,s₀:=s₃,H₀:=H₃,env:=compEnvC scope cl C X.env,outer:=X.stack,stack:=X.stack,ex:=fp,fn:=pD scope,pn:=[],xe:=fun _ _=>False }
theorem jV{env:Env}:∀ (names:List (Str×NameKind)) (acc:List (Str×Addr)),(∀y∈names,y.2=NameKind.free→∃c,env.cells.lookup y.1=some c)→(∀x c,acc.lookup x=some c→env.cells.lookup x=some c)→
  ∃cl,(forIn names acc fun x r=>(if (x.2==NameKind.free)=true then (do let a ← cellOf env x.1;pure (ForInStep.yield ((x.1,a)::r))) else pure (ForInStep.yield r):Sem (ForInStep (List (Str×Addr)))))=(pure cl:Sem (List (Str×Addr)))∧
   (∀x c,cl.lookup x=some c→env.cells.lookup x=some c)∧(∀x c,acc.lookup x=some c→∃c',cl.lookup x=some c')∧∀x,(x,NameKind.free)∈names→∃c,cl.lookup x=some c
 |[],acc,_,ha=>⟨acc,by rw[List.forIn_nil],ha,fun x c h=>⟨c,h⟩,fun x h=>nomatch h⟩
 |(n,k)::r,acc,hf,ha=>by
  by_cases hk:k=NameKind.free
  ·subst hk
   obtain⟨c,hc⟩:=hf (n,NameKind.free) List.mem_cons_self rfl
   have ha':∀x c',((n,c)::acc).lookup x=some c'→env.cells.lookup x=some c':=fun x c' h=>by
    rw[List.lookup_cons] at h
    cases hx:x==n with
    |true=>
     rw[hx] at h
     cases h
     have:x=n:=by simpa using hx
     rw[this];exact hc
    |false=>rw[hx] at h;exact ha x c' h
   obtain⟨cl,e1,e2,e3,e4⟩:=jV r ((n,c)::acc) (fun y hy=>hf y (List.mem_cons_of_mem _ hy)) ha'
   refine⟨cl,?_,e2,fun x c' h=>?_,fun x h=>?_⟩
   ·rw[List.forIn_cons]
    have ec:cellOf env n=pure c:=by unfold cellOf;rw[hc]
    have e0:(if ((n,NameKind.free).2==NameKind.free)=true then (do let a ← cellOf env (n,NameKind.free).1;pure (ForInStep.yield (((n,NameKind.free).1,a)::acc))) else pure (ForInStep.yield acc):Sem (ForInStep (List (Str×Addr))))=pure (ForInStep.yield ((n,c)::acc)):=by
     rw[if_pos (show (NameKind.free==NameKind.free)=true by decide)]
     show cellOf env n >>= _=_
     rw[ec];rfl
    rw[e0]
    exact e1
   ·cases hx:x==n with
    |true=>exact e3 x c (by rw[List.lookup_cons,hx])
    |false=>exact e3 x c' (by rw[List.lookup_cons,hx];exact h)
   ·rcases List.mem_cons.mp h with h|h
    ·cases h
     exact e3 n c (by rw[List.lookup_cons];simp)
    ·exact e4 x h
  ·obtain⟨cl,e1,e2,e3,e4⟩:=jV r acc (fun y hy=>hf y (List.mem_cons_of_mem _ hy)) ha
   refine⟨cl,?_,e2,e3,fun x h=>?_⟩
   ·rw[List.forIn_cons]
    have hb:(k==NameKind.free)=false:=by simpa using hk
    have e0:(if ((n,k).2==NameKind.free)=true then (do let a ← cellOf env (n,k).1;pure (ForInStep.yield (((n,k).1,a)::acc))) else pure (ForInStep.yield acc):Sem (ForInStep (List (Str×Addr))))=pure (ForInStep.yield acc):=by
     rw[if_neg (by show ¬ (k==NameKind.free)=true;rw[hb];decide)]
    rw[e0]
    exact e1
   ·rcases List.mem_cons.mp h with h|h
    ·cases h;exact absurd rfl hk
    ·exact e4 x h
theorem jW{X:Cx}(ok:X.Ok){NB:List Str}{src:List (Option Nat)}{scope:Scope}(S:eV NB src scope X):
  ∃cl,closureFor scope X.env=pure cl∧(∀x c,cl.lookup x=some c→X.env.cells.lookup x=some c)∧∀x,(x,NameKind.free)∈scope.names→∃c,cl.lookup x=some c:=by
 obtain⟨cl,e1,e2,_,e4⟩:=jV (env:=X.env) scope.names [] (fun y hy hk=>ok.has y.1 (S.free y hy hk)) (fun x c h=>nomatch h)
 refine⟨cl,?_,e2,e4⟩
 unfold closureFor
 simp only[bind_pure]
 exact e1
theorem sQ{scope:Scope}{env:Env}{x:Str}(h:scope.names.lookup x=some .free):(relabel scope env).names.lookup x=some .cell∨(relabel scope env).names.lookup x=some .free:=by
 have go:∀names:List (Str×NameKind),names.lookup x=some .free→
   (names.map fun (n,k)=>if (k==NameKind.free&&env.scope.kind==.function&&env.kindOf n==some .cell) then (n,NameKind.cell) else (n,k)).lookup x=some .cell∨
   (names.map fun (n,k)=>if (k==NameKind.free&&env.scope.kind==.function&&env.kindOf n==some .cell) then (n,NameKind.cell) else (n,k)).lookup x=some .free:=by
  intro names
  induction names with
  |nil=>intro h;simp at h
  |cons y r ih=>
   intro h
   obtain⟨n,k⟩:=y
   rw[List.lookup_cons] at h
   rw[List.map_cons]
   cases hx:x==n with
   |true=>
    rw[hx] at h
    cases h
    by_cases hc:(NameKind.free==NameKind.free&&env.scope.kind==.function&&env.kindOf n==some .cell)=true
    ·left;show List.lookup x ((if _ then _ else _)::_)=_;rw[if_pos hc,List.lookup_cons,hx]
    ·right;show List.lookup x ((if _ then _ else _)::_)=_;rw[if_neg hc,List.lookup_cons,hx]
   |false=>
    rw[hx] at h
    by_cases hc:(k==NameKind.free&&env.scope.kind==.function&&env.kindOf n==some .cell)=true
    ·show List.lookup x ((if _ then _ else _)::_)=_∨List.lookup x ((if _ then _ else _)::_)=_
     rw[if_pos hc,List.lookup_cons,hx];exact ih h
    ·show List.lookup x ((if _ then _ else _)::_)=_∨List.lookup x ((if _ then _ else _)::_)=_
     rw[if_neg hc,List.lookup_cons,hx];exact ih h
 exact go scope.names h
theorem kQ{scope:Scope}{env:Env}{x:Str}{k:NameKind}(h:(relabel scope env).names.lookup x=some k)(hk:k=.cell∨k=.free):(x,NameKind.free)∈scope.names∨(x,NameKind.cell)∈scope.names:=by
 have m:=PySem.mem_of_lookup h
 obtain⟨⟨n,k'⟩,hm,e⟩:=List.mem_map.mp m
 by_cases q:(k'==NameKind.free&&env.scope.kind==.function&&env.kindOf n==some .cell)=true
 ·have e':(n,NameKind.cell)=(x,k):=by simpa [q] using e
  have k1:k'=NameKind.free:=by
   simp only[Bool.and_eq_true,beq_iff_eq] at q
   exact q.1.1
  cases e'
  left
  rw[← k1];exact hm
 ·have e':(n,k')=(x,k):=by simpa [q] using e
  cases e'
  rcases hk with z|z
  ·subst z;exact .inr hm
  ·subst z;exact .inl hm
theorem kR:∀ (names:List (Str×NameKind)) (h:Heap) (acc:List (Str×Addr)) (x:Str) (c:Addr),(cellsFrom h.objs.size names acc).lookup x=some c→acc.lookup x=some c∨(h.objs.size≤c∧(pushCells h names).IsCell c none)
 |[],_,_,_,_,e=>.inl e
 |(name,kind)::r,h,acc,x,c,e=>by
  unfold cellsFrom at e
  unfold pushCells
  split at e
  ·rename_i hk
   rw[if_pos hk]
   have hsz:(h.push { cls:=.type "cell",data:=.cell none }).objs.size=h.objs.size+1:=Heap.size_push ..
   rw[← hsz] at e
   rcases kR r _ _ x c e with z|⟨z1,z2⟩
   ·rw[List.lookup_cons] at z
    cases hx:x==name with
    |true=>
     rw[hx] at z
     cases z
     exact .inr ⟨Nat.le_refl _,_,pushCells_keeps r _ _ _ (Heap.get?_push_size _ rfl),rfl⟩
    |false=>rw[hx] at z;exact .inl z
   ·exact .inr ⟨by lia,z2⟩
  ·rename_i hk
   rw[if_neg hk]
   exact kR r h acc x c e
theorem qI:∀ (names:List (Str×NameKind)) (n:Nat) (acc:List (Str×Addr)) (x:Str),(x,NameKind.cell)∈names→∃c,n≤c∧(cellsFrom n names acc).lookup x=some c:=by
 have up:∀ (names:List (Str×NameKind)) (n m:Nat) (acc:List (Str×Addr)) (x:Str) (c:Addr),acc.lookup x=some c→m≤c→m≤n→∃c',m≤c'∧(cellsFrom n names acc).lookup x=some c':=by
  intro names
  induction names with
  |nil=>intro n m acc x c e h _;exact⟨c,h,e⟩
  |cons y r ih=>
   intro n m acc x c e h hm
   obtain⟨name,kind⟩:=y
   unfold cellsFrom
   split
   ·cases hx:x==name with
    |true=>exact ih (n+1) m _ x n (by rw[List.lookup_cons,hx]) hm (by lia)
    |false=>exact ih (n+1) m _ x c (by rw[List.lookup_cons,hx];exact e) h (by lia)
   ·exact ih n m acc x c e h hm
 intro names
 induction names with
 |nil=>intro n acc x h;cases h
 |cons y r ih=>
  intro n acc x h
  obtain⟨name,kind⟩:=y
  unfold cellsFrom
  rcases List.mem_cons.mp h with z|z
  ·cases z
   rw[if_pos (by decide)]
   exact up r (n+1) n _ x n (by rw[List.lookup_cons];simp) (Nat.le_refl _) (by lia)
  ·split
   ·obtain⟨c,h1,h2⟩:=ih (n+1) ((name,n)::acc) x z
    exact⟨c,by lia,h2⟩
   ·exact ih n acc x z
theorem iV:∀ (names:List (Str×NameKind)) (n:Nat) (acc:List (Str×Addr)) (x:Str) (c:Addr),acc.lookup x=some c→(x,NameKind.cell)∉names→(cellsFrom n names acc).lookup x=some c
 |[],_,_,_,_,e,_=>e
 |(name,kind)::r,n,acc,x,c,e,h=>by
  have hr:(x,NameKind.cell)∉r:=fun z=>h (List.mem_cons_of_mem _ z)
  unfold cellsFrom
  split
  ·rename_i hk
   have hne:(x==name)=false:=by
    cases hx:x==name with
    |false=>rfl
    |true=>
     have e1:x=name:=by simpa using hx
     have e2:kind=.cell:=by simpa using hk
     exact absurd (by rw[e1,e2];exact List.mem_cons_self) h
   exact iV r (n+1) _ x c (by rw[List.lookup_cons,hne];exact e) hr
  ·exact iV r n acc x c e hr
theorem kS:∀ (names:List (Str×NameKind)) (n:Nat) (acc:List (Str×Addr)),(∀x y c,acc.lookup x=some c→acc.lookup y=some c→x=y)→(∀x c,acc.lookup x=some c→c<n)→∀x y c,(cellsFrom n names acc).lookup x=some c→(cellsFrom n names acc).lookup y=some c→x=y
 |[],_,_,hi,_=>hi
 |(name,kind)::r,n,acc,hi,hl=>by
  unfold cellsFrom
  split
  ·refine kS r (n+1) _ (fun x y c h1 h2=>?_) (fun x c h=>?_)
   ·rw[List.lookup_cons] at h1 h2
    cases hx:x==name <;> cases hy:y==name <;> rw[hx] at h1 <;> rw[hy] at h2
    ·exact hi x y c h1 h2
    ·cases h2;exact absurd (hl x _ h1) (Nat.lt_irrefl _)
    ·cases h1;exact absurd (hl y _ h2) (Nat.lt_irrefl _)
    ·have e1:x=name:=by simpa using hx
     have e2:y=name:=by simpa using hy
     rw[e1,e2]
   ·rw[List.lookup_cons] at h
    cases hx:x==name <;> rw[hx] at h
    ·exact Nat.lt_succ_of_lt (hl x c h)
    ·cases h;exact Nat.lt_succ_self _
  ·exact kS r n acc hi hl
section
variable {X:Cx} {pins:List (Addr×Obj)} {σ:St} {H:Hp} {s:Shared} {NB:List Str} {src:List (Option Nat)} {scope:Scope} {cl:List (Str×Addr)} {fp:List Addr} {h₁:Heap} {t₁:Nat}
theorem aCS(I:Inv X pins σ H s)(S:eV NB src scope X)(c1:∀x c,cl.lookup x=some c→X.env.cells.lookup x=some c)(c2:∀x,(x,NameKind.free)∈scope.names→∃c,cl.lookup x=some c)(hf:∀b∈fp,FpOk X pins H b)(hfo:∀b∈fp,b<s.heap.objs.size){m:Str→Option Value}(hn:h₁.Ns s.heap.objs.size m)(hk:∀b o,s.heap.get? b=some o→h₁.get? b=some o)(hnew:∀x c,(cellsFrom (s.heap.objs.size+1) scope.names cl).lookup x=some c→cl.lookup x=some c∨(s.heap.objs.size<c∧h₁.IsCell c none)):
  Inv (blk X NB scope (cellsFrom (s.heap.objs.size+1) scope.names cl) s.heap.objs.size s H fp) [] (cSt src σ) H { s with heap:=h₁,toks:=t₁ }:=by
 have stk:∀b∈frs X.stack,b∈X.env.locals::X.fs:=I.stkSub
 have cellOk:∀x c,cl.lookup x=some c→∃v,s.heap.IsCell c v:=fun x c e=>I.cell x c (c1 x c e)
 have clLt:∀x c,cl.lookup x=some c→c<s.heap.objs.size:=fun x c e=>by obtain⟨v,o,ho,_⟩:=cellOk x c e;exact Heap.lt_size ho
 refine⟨⟨I.ok.mod,S.kind,I.ok.glob,I.ok.blt,Nat.le_refl _,kS _ _ _ (fun x y c e1 e2=>I.ok.inj x y c (c1 x c e1) (c1 y c e2)) (fun x c e=>Nat.lt_succ_of_lt (clLt x c e)),fun x hx=>?_,fun x c z e=>?_,I.ok.hd,I.ok.frames,.inl rfl,fun b hb=>⟨?_,fun x c e=>?_⟩,I.bs,Nat.le_trans I.ok.bsz I.sz,fun b o e hb=>?_,fun b hb=>?_,I.stack,I.stkFree⟩,
  rfl,I.bare,Un.kept hk,⟨m,hn,fun i x v e1 e2 e3=>?_⟩,fun x c e=>?_,I.hok.fresh (Nat.le_refl _),fun x c e=>?_,fun p hp=>absurd (show p∈([]:List (Addr×Obj)) from hp) (by simp),I.hok.kept hk,?_⟩
 ·have both:(x,NameKind.free)∈scope.names∨(x,NameKind.cell)∈scope.names:=by
   rcases hx with hx|hx
   ·exact kQ hx (.inl rfl)
   ·exact kQ hx (.inr rfl)
  by_cases hc:(x,NameKind.cell)∈scope.names
  ·obtain⟨c,_,e⟩:=qI scope.names (s.heap.objs.size+1) cl x hc
   exact⟨c,e⟩
  ·rcases both with z|z
   ·obtain⟨c,e⟩:=c2 x z
    exact⟨c,iV _ _ _ _ _ e hc⟩
   ·exact absurd z hc
 ·have hm:=PySem.mem_of_lookup (vM.mp z)
  obtain⟨c',h1,h2⟩:=qI scope.names (s.heap.objs.size+1) cl x hm
  have e':(cellsFrom (s.heap.objs.size+1) scope.names cl).lookup x=some c:=e
  rw[h2] at e'
  cases e'
  exact Nat.le_of_succ_le h1
 ·exact Nat.ne_of_lt (hfo b hb)
 ·rcases hnew x c e with z|⟨z,_⟩
  ·exact(hf b hb).2.2.2.2.1 x c (c1 x c z)
  ·exact Nat.ne_of_gt (Nat.lt_trans (hfo b hb) z)
 ·rcases(hf b hb).2.2.2.1 with z|z
  ·exact I.ok.noex b o e z
  ·exact absurd (Nat.lt_of_lt_of_le (Heap.lt_size e) (Nat.le_trans I.ok.bsz z)) (Nat.lt_irrefl _)
 ·intro z
  rcases List.mem_cons.mp (stk b z) with e|e
  ·exact(hf b hb).2.1 e
  ·exact(hf b hb).2.2.1 e
 ·obtain⟨j,hj,hv⟩:=aCR e2
  obtain⟨hN,hF⟩:=S.src i x j e1 hj
  obtain⟨m0,hn0,hl0⟩:=I.loc
  have hmem:=PySem.mem_of_lookup hF
  have kx:=S.free _ hmem rfl
  have vis:Vis X.env.scope x:=by
   rcases kx with z|z
   ·exact .inr (.inl z)
   ·exact .inr (.inr z)
  obtain⟨u,r,l⟩:=hl0 j x v hN hv vis
  refine⟨u,r,.inr ⟨sQ hF,?_⟩⟩
  obtain⟨c,hc⟩:=c2 x hmem
  have hnc:(x,NameKind.cell)∉scope.names:=fun z=>by
   have:=S.cells _ z rfl
   rw[hF] at this;cases this
  refine⟨c,iV _ _ _ _ _ hc hnc,?_⟩
  rcases l with ⟨hk',_⟩|⟨_,c',e,z⟩
  ·have hk'':X.env.scope.names.lookup x=some .local:=hk'
   rcases kx with z|z <;> (rw[z] at hk'';cases hk'')
  ·rw[c1 x c hc] at e
   cases e
   obtain⟨o,ho,hd⟩:=z
   exact⟨o,hk _ _ ho,hd⟩
 ·rcases hnew x c e with z|⟨_,z⟩
  ·obtain⟨v,o,ho,hd⟩:=cellOk x c z
   exact⟨v,o,hk _ _ ho,hd⟩
  ·exact⟨none,z⟩
 ·rcases hnew x c e with z|⟨z,_⟩
  ·exact I.freeC x c (c1 x c z)
  ·exact I.hok.fresh (Nat.le_of_lt z)
 ·show (cSt src σ).length=NB.length
  unfold cSt
  rw[List.length_map]
  exact S.len
theorem Inv.unblk{C:Addr}{σB:St}{H':Hp}{s':Shared}(I:Inv X pins σ H s)(J:Inv (blk X NB scope cl C s H fp) [] σB H' s')(hf:∀b∈fp,FpOk X pins H b):Inv X pins σ H' s':=by
 refine I.call' (ch:=fp) J.os J.base J.hok J.bare fun b hb=>?_
 obtain⟨_,f1,_,f3,f4,f5⟩:=hf b hb
 exact⟨f3,f1,f4,f5⟩
end
def PTs(X:Cx)(ifs:List Expr)(t:TT):Prop:=
 ∀ (pins:List (Addr×Obj)) (s:Shared) (σ:St) (H:Hp) (Q:Bool→Hp→Prop),Inv X pins σ H s→t σ H Q→
  wpAny (model X.prog X.w) X.A (forIn ifs true fun c r=>if r=true then do let ok ← isTrue c X.env (eval c X.env);pure (ForInStep.yield ok) else pure (ForInStep.yield r)) (TP X pins σ Q) X.xe s
def tYes:TT:=fun _ H Q=>Q true H
theorem cQ{X:Cx}:PTs X [] tYes:=fun _ _ _ H _ I h=>wpAny_tests_nil ⟨H,I,h⟩
theorem dF{X:Cx}{c:Expr}{t:TT}(h:PT X c t):PTs X [c] t:=fun pins s σ H Q I q=>wpAny_tests_one (h pins s σ H Q I q)
def dP(J:It)(g:TG)(tt:TT)(te:TE)(D:Addr)(fin:Hp→Prop)(σB:St)(H1:Hp):Prop:=
 ∃W:Nat→Nat→St→Hp→Prop,(∃m,W 0 m σB H1)∧∀i m σ H,W i m σ H→(J.stop i H∧fin H)∨(J.go i H∧∀x H',J.yld i H x H'→g x σ H' fun σ2 H2=>tt σ2 H2 fun b H3=>
  if b=true then te σ2 H3 fun v H4=>∃ys,H4 D=some (.lst ys)∧ys.length<sizeLine∧∃m',m'<m∧W (i+1) m' σ2 (upd H4 D (.lst (ys++[v]))) else ∃m',m'<m∧W (i+1) m' σ2 H3)
theorem aAA{B:Cx}{elt tg iter:Expr}{ifs:List Expr}{scope:Scope}{pos:Pos}{J:It}{g:TG}{tt:TT}{te:TE}{D it:Addr}{fp:List Addr}{tn:Nat→Heap→Prop}{fin:Hp→Prop}{R:Result→Shared→Prop}{s:Shared}{σB:St}{H1:Hp}(hx:B.xe=fun _ _=>False)(hc:B.calm=true)(T:Turn B.prog B.w B.K tg J fp it tn)(hg:PG B tg g)(ht:PTs B ifs tt)(he:PE B elt te)(I:Inv B [] σB H1 s)(st:tn 0 s.heap)(hf:∀b∈fp,FpOk B [] H1 b)(hw:dP J g tt te D fin σB H1)(hR:∀σ' H' s',Inv B [] σ' H' s'→fin H'→R (.ok .next) s'):
  codeAny (model B.prog B.w) B.A (.compLoop (.ListComp elt [⟨tg,iter,ifs,0⟩] scope pos) 0 (.ref it) (.ref D) B.env) R s:=by
 obtain⟨W,⟨m0,w0⟩,turn⟩:=hw
 have stat:∀ {H':Hp},(∀b∈fp,H' b=none)→∀b∈fp,FpOk B [] H' b:=fun hn b hb=>⟨hn b hb,(hf b hb).2⟩
 refine codeAny_loop rfl (fun n s'=>∃i σ' H',Inv B [] σ' H' s'∧tn i s'.heap∧(∀b∈fp,H' b=none)∧W i n σ' H') ?_ m0 ⟨0,σB,H1,I,st,fun b hb=>(hf b hb).1,w0⟩
 rintro n s3 ⟨i,σ3,H3,I3,st3,fr3,w3⟩
 show wpAny _ B.A ((compTurn (.ListComp elt [⟨tg,iter,ifs,0⟩] scope pos) 0 (.ref it) (.ref D) B.env).onRaise (fun x=>do noteFrame x B.env;theTreesLotGoes x)) _ _ s3
 refine wpAny_noted ?_
 rw[compTurn_list]
 have nx:∀ {α:Type} {t:Sem α} {Q:α→Shared→Prop} {E':Value→Shared→Prop} {s:Shared},wpAny (model B.prog B.w) B.A t Q B.xe s→wpAny (model B.prog B.w) B.A t Q E' s:=fun h=>
  wpAny_mono h (fun _ _ q=>q) fun _ _ z=>by rw[hx] at z;exact z.elim
 rcases turn i n σ3 H3 w3 with ⟨stop,qn⟩|⟨go,step⟩
 ·refine wpAny_bind (wpAny_standAt (wpAny_bind (thn (T.done B rfl rfl rfl hc i [] s3 σ3 H3 _ I3 (stat fr3) st3 stop) fun r s4 ⟨hr,I4⟩=>?_)))
  subst hr
  exact wpAny_pure (hR σ3 H3 s4 I4 qn)
 ·refine wpAny_bind (wpAny_standAt (wpAny_bind (thn (T.item B rfl rfl rfl hc i [] s3 σ3 H3 _ I3 (stat fr3) st3 go) fun r s4 ⟨u,hr,h4⟩=>?_)))
  subst hr
  refine wpAny_bind (thn h4 fun _ s5 ⟨x,H5,I5,r5,y5,st5,fr5⟩=>?_)
  have I5':=I5.pinned (stat fr5) (T.obj _ _ st5)
  refine wpAny_bind (nx (thn (hg _ s5 σ3 H5 x u _ I5' r5 (step x H5 y5)) fun _ s6 ⟨σ6,H6,I6,q6⟩=>?_))
  have back:∀ {σ7:St} {H7:Hp} {s7:Shared} {m':Nat},Inv B ([]++kM fp s5.heap) σ7 H7 s7→m'<n→W (i+1) m' σ7 H7→∃m,m<n∧∃i σ' H',Inv B [] σ' H' s7∧tn i s7.heap∧(∀b∈fp,H' b=none)∧W i m σ' H':=fun {σ7 H7 s7 m'} I7 hm w7=>by
   refine⟨m',hm,i+1,σ7,H7,I7.unpinned,T.keep _ _ _ st5 fun b hb o e=>(I7.pin (b,o) (List.mem_append_right _ (List.mem_append_right _ (hV hb e)))).1,fun b hb=>?_,w7⟩
   obtain⟨o,e,d⟩:=T.obj _ _ st5 b hb
   exact(I7.pin (b,o) (List.mem_append_right _ (List.mem_append_right _ (hV hb e)))).2.1
  refine wpAny_bind (nx (thn (ht _ s6 σ6 H6 _ I6 q6) fun ok s7 ⟨H7,I7,q7⟩=>?_))
  cases ok with
  |false=>
   rw[if_neg Bool.false_ne_true] at q7
   obtain⟨m',hm,w7⟩:=q7
   exact wpAny_pure ⟨rfl,back I7 hm w7⟩
  |true=>
   rw[if_pos rfl] at q7
   refine wpAny_bind (wpAny_bind (nx (thn (he _ s7 σ6 H7 _ I7 q7) fun v s8 ⟨y,H8,I8,r8,ys,hD,hl,m',hm,w8⟩=>?_)))
   refine wpAny_bind (nx (thn (cE _ s8 σ6 H8 (.ref D) [y] (.ref D) [v] (fun _ H9=>H9=upd H8 D (.lst (ys++[y]))) I8 rfl (.cons r8 .nil) ⟨D,ys,y,rfl,rfl,hD,hl,rfl⟩) fun _ s9 ⟨_,H9,I9,_,e9⟩=>?_))
   subst e9
   exact wpAny_pure (wpAny_pure ⟨rfl,back I9 hm w8⟩)
end L2
namespace L2
open PySem PySem.Spec PyProof.Rows
theorem sU{M:Model}{A:Around}{E:Value→Shared→Prop}{s:Shared}{scope:Scope}{globals:Addr}{cl:List (Str×Addr)}{qual:Str}{outer:Env}{Q:Env→Shared→Prop}(hQ:Q { scope:=scope,locals:=s.heap.objs.size,globals:=globals,cells:=cellsFrom (s.heap.objs.size+1) scope.names cl,qual:=qual,func:=none,code:=outer.code,frame:=outer.frame,builtins:=outer.builtins }
   { s with heap:=pushCells (s.heap.push { cls:=.type "dict",data:=.dict #[] }) scope.names }):
  wpAny M A (newFunctionEnv scope globals cl [] qual none .none (some outer)) Q E s:=by
 simp only[newFunctionEnv,Option.isSome_some,if_true]
 refine wpAny_bind (wpAny_alloc ?_)
 refine wpAny_bind (wpAny_layCells _ (fun name kind cells=>by cases hkc:kind==NameKind.cell <;> simp[hkc]) _ _ _ _ ?_)
 rw[show ({ s with heap:=s.heap.push { cls:=.type "dict",data:=.dict #[] } }:Shared).heap.objs.size=s.heap.objs.size+1 from Heap.size_push ..]
 refine wpAny_bind ?_
 rw[List.forIn_nil]
 exact wpAny_pure (wpAny_pure hQ)
section
variable {X:Cx} {elt tg iter:Expr} {ifs:List Expr} {scope:Scope} {pos:Pos} {wi:TI} {g:TG} {tt:TT} {te:TE} {NB:List Str} {src:List (Option Nat)}
def yF(src:List (Option Nat))(wi:TI)(g:TG)(tt:TT)(te:TE):TE:=fun σ H Q=>wi σ H fun J H1=>∀D,H1 D=none→dP J g tt te D (fun H'=>Q (.ref D) H') (cSt src σ) (upd H1 D (.lst []))
theorem nV{pins:List (Addr×Obj)}{σ:St}{H2:Hp}{s2:Shared}{J:It}{fp:List Addr}{it:Addr}{tn:Nat→Heap→Prop}{cl:List (Str×Addr)}{fin:Addr→Hp→Prop}{E':Value→Shared→Prop}{RR:Value→Addr→Result→Shared→Prop}(S:eV NB src scope X)(hc:X.calm=true)(c1:∀x c,cl.lookup x=some c→X.env.cells.lookup x=some c)(c2:∀x,(x,NameKind.free)∈scope.names→∃c,cl.lookup x=some c)(hg:∀cl C s₃ H₃ fp,PG (blk X NB scope cl C s₃ H₃ fp) tg g)(ht:∀cl C s₃ H₃ fp,PTs (blk X NB scope cl C s₃ H₃ fp) ifs tt)(he:∀cl C s₃ H₃ fp,PE (blk X NB scope cl C s₃ H₃ fp) elt te)(I2:Inv X pins σ H2 s2)(T:Turn X.prog X.w X.K tg J fp it tn)(st2:tn 0 s2.heap)(f2:∀b∈fp,FpOk X pins H2 b)(hw:∀D,H2 D=none→dP J g tt te D (fin D) (cSt src σ) (upd H2 D (.lst [])))(hR:∀D C H' s',FpOk X pins H' C→Inv X pins σ H' s'→(∃m,s'.heap.Ns C m)→fin D H'→RR (.ref D) C (.ok .next) s'):
  wpAny (model X.prog X.w) X.A (newList []) (fun acc s₃=>wpAny (model X.prog X.w) X.A (newFunctionEnv scope X.env.globals cl [] X.env.qual none .none (some X.env)) (fun cenv s₄=>
   codeAny (model X.prog X.w) X.A (.compStart (.ListComp elt [⟨tg,iter,ifs,0⟩] scope pos) 0 (.ref it) acc { cenv with scope:=relabel scope X.env }) (RR acc cenv.locals) s₄) E' s₃) E' s2:=by
 refine wpAny_newObj_type (sU ?_)
 have I3:=I2.lnew (ys:=[]) (its:=[]) (t':=s2.toks) .nil (Nat.zero_le _)
 have hD:H2 s2.heap.objs.size=none:=I2.fresh
 have fo:∀b∈fp,b<s2.heap.objs.size:=fun b hb=>by obtain⟨o,e,_⟩:=T.obj _ _ st2 b hb;exact Heap.lt_size e
 have up:∀ {b:Addr},b∈fp→upd H2 s2.heap.objs.size (.lst []) b=H2 b:=fun {b} hb=>aH (Nat.ne_of_lt (fo b hb))
 have f3:∀b∈fp,FpOk X pins (upd H2 s2.heap.objs.size (.lst [])) b:=fun b hb=>⟨by rw[up hb];exact(f2 b hb).1,(f2 b hb).2⟩
 have hsz:(s2.heap.push { cls:=.type "list",data:=.seq ([]:List Value).toArray }).objs.size=s2.heap.objs.size+1:=by rw[Heap.size_push]
 generalize hs3:({ s2 with heap:=s2.heap.push { cls:=.type "list",data:=.seq ([]:List Value).toArray } }:Shared)=s3 at I3 ⊢
 have hh3:s3.heap=s2.heap.push { cls:=.type "list",data:=.seq ([]:List Value).toArray }:=by rw[← hs3]
 have fo3:∀b∈fp,b<s3.heap.objs.size:=fun b hb=>by rw[hh3,hsz];exact Nat.lt_succ_of_lt (fo b hb)
 have hsz3:(s3.heap.push { cls:=.type "dict",data:=.dict #[] }).objs.size=s3.heap.objs.size+1:=Heap.size_push ..
 have hnew:∀x c,(cellsFrom (s3.heap.objs.size+1) scope.names cl).lookup x=some c→cl.lookup x=some c∨(s3.heap.objs.size<c∧(pushCells (s3.heap.push { cls:=.type "dict",data:=.dict #[] }) scope.names).IsCell c none):=fun x c e=>by
  rw[← hsz3] at e
  rcases kR _ _ _ _ _ e with z|⟨z1,z2⟩
  ·exact .inl z
  ·exact .inr ⟨by rw[hsz3] at z1;exact z1,z2⟩
 have hns₁:=(Heap.Ns.new s3.heap (.type "dict")).keeps (pushCells_keeps scope.names _)
 have keep:∀b o,s3.heap.get? b=some o→(pushCells (s3.heap.push { cls:=.type "dict",data:=.dict #[] }) scope.names).get? b=some o:=fun b o e=>pushCells_keeps _ _ b o (Heap.get?_push_of_some _ e)
 generalize hh1:pushCells (s3.heap.push { cls:=.type "dict",data:=.dict #[] }) scope.names=h₁ at hnew hns₁ keep ⊢
 have IB:Inv (blk X NB scope (cellsFrom (s3.heap.objs.size+1) scope.names cl) s3.heap.objs.size s3 (upd H2 s2.heap.objs.size (.lst [])) fp) [] (cSt src σ) (upd H2 s2.heap.objs.size (.lst [])) { s3 with heap:=h₁,toks:=s3.toks }:=
  aCS I3 S c1 c2 f3 fo3 hns₁ keep hnew
 have stB:tn 0 h₁:=T.keep 0 s2.heap h₁ st2 fun b hb o e=>keep b o (by rw[hh3];exact Heap.get?_push_of_some _ e)
 have fB:∀b∈fp,FpOk (blk X NB scope (cellsFrom (s3.heap.objs.size+1) scope.names cl) s3.heap.objs.size s3 (upd H2 s2.heap.objs.size (.lst [])) fp) [] (upd H2 s2.heap.objs.size (.lst [])) b:=fun b hb=>by
  refine⟨(f3 b hb).1,Nat.ne_of_lt (fo3 b hb),fun z=>?_,.inl hb,fun x c e=>(IB.ok.exf b hb).2 x c e,fun p hp=>absurd (show p∈([]:List (Addr×Obj)) from hp) (by simp)⟩
  rcases List.mem_cons.mp (I3.stkSub b z) with e|e
  ·exact(f3 b hb).2.1 e
  ·exact(f3 b hb).2.2.1 e
 have loop:codeAny (model X.prog X.w) X.A (.compLoop (.ListComp elt [⟨tg,iter,ifs,0⟩] scope pos) 0 (.ref it) (.ref s2.heap.objs.size) (compEnvC scope (cellsFrom (s3.heap.objs.size+1) scope.names cl) s3.heap.objs.size X.env)) (RR (.ref s2.heap.objs.size) s3.heap.objs.size)
   { s3 with heap:=h₁,toks:=s3.toks }:=by
  refine aAA (B:=blk X NB scope (cellsFrom (s3.heap.objs.size+1) scope.names cl) s3.heap.objs.size s3 (upd H2 s2.heap.objs.size (.lst [])) fp) rfl hc T (hg _ _ _ _ _) (ht _ _ _ _ _) (he _ _ _ _ _) IB stB fB (hw _ hD) fun σ' H' s' J' q=>?_
  obtain⟨m,hm,_⟩:=J'.loc
  exact hR _ _ H' s' (I3.fpOk (Nat.le_refl _) J'.free) (I3.unblk J' f3) ⟨m,hm⟩ q
 exact codeAny_compStart_list loop (T.self _ 0 _ _ _ stB loop)
theorem cG(S:eV NB src scope X)(hc:X.calm=true)(hi:PI X tg iter wi)(hg:∀cl C s₃ H₃ fp,PG (blk X NB scope cl C s₃ H₃ fp) tg g)(ht:∀cl C s₃ H₃ fp,PTs (blk X NB scope cl C s₃ H₃ fp) ifs tt)(he:∀cl C s₃ H₃ fp,PE (blk X NB scope cl C s₃ H₃ fp) elt te)(hs:∀x,foldedSetIterable iter X.env x=pure x:=by intro _;rfl):PE X (.ListComp elt [⟨tg,iter,ifs,0⟩] scope pos) (yF src wi g tt te):=by
 intro pins s σ H Q I h
 obtain⟨cl,hcl,c1,c2⟩:=jW I.ok S
 rw[eval_ListComp]
 refine wpAny_comprehension_free (use:=none) (cl:=cl) rfl hs hcl S.kind S.names (thn (hi pins s σ H _ I h) fun v s1 h1=>thn h1 fun itv s2 h2=>?_)
 obtain⟨it,fp,tn,J,H2,e,I2,T,st2,f2,hw⟩:=h2
 subst e
 refine nV (RR:=fun acc C=>compPost (model X.prog X.w) X.A X.xe none (EP X pins σ Q) acc C) S hc c1 c2 hg ht he I2 T st2 f2 hw fun D C H' s' fC I' hm q=>?_
 obtain⟨m,hm⟩:=hm
 refine⟨m,hm,fun h' sb=>⟨.ref D,H',?_,rfl,q⟩⟩
 obtain⟨g0,g1,_,g3,g4,g5⟩:=fC
 exact I'.turned (t':=s'.toks) (fun b o hb e=>(sb.2 b hb).trans e) g0 g1 g3 g4 g5
theorem dB{i:Nat}{y:Str}{py spos:Pos}(S:eV NB src scope X)(hc:X.calm=true)(hi:PI X tg iter wi)(hg:∀cl C s₃ H₃ fp,PG (blk X NB scope cl C s₃ H₃ fp) tg g)(ht:∀cl C s₃ H₃ fp,PTs (blk X NB scope cl C s₃ H₃ fp) ifs tt)(he:∀cl C s₃ H₃ fp,PE (blk X NB scope cl C s₃ H₃ fp) elt te)(hN:X.N.Nodup)(hix:X.N[i]?=some y)(hy:X.env.scope.names.lookup y=some .local)(hsw:swapsWith (.ListComp elt [⟨tg,iter,ifs,0⟩] scope pos) (some (.Name y py)) spos.line X.env=pure true)(hs:∀x,foldedSetIterable iter X.env x=pure x:=by intro _;rfl):
  PS X (.Assign [.Name y py] (.ListComp elt [⟨tg,iter,ifs,0⟩] scope pos) spos) (tAsg (yF src wi g tt te) (bB i)):=by
 intro pins s σ H D0 I h
 obtain⟨cl,hcl,c1,c2⟩:=jW I.ok S
 rw[exec_Assign_Name_used _ _ _ _ hsw]
 refine wpAny_bind (wpAny_standAt (wpAny_bind ?_))
 show wpAny _ X.A (do let _ ← comprehension (.ListComp elt [⟨tg,iter,ifs,0⟩] scope pos) scope X.env _ (newList []) false (eval iter X.env) (some (assign (.Name y py) X.env))) _ _ s
 refine wpAny_bind (wpAny_mono (wpAny_comprehension_free (use:=some (assign (.Name y py) X.env)) (Q:=fun _ s'=>SP X pins D0 .next s') (cl:=cl) rfl hs hcl S.kind S.names
  (thn (hi pins s σ H _ I h) fun v s1 h1=>thn h1 fun itv s2 h2=>?_)) (fun _ s' hq=>wpAny_pure (wpAny_pure hq)) fun _ _ e=>e)
 obtain⟨it,fp,tn,J,H2,e,I2,T,st2,f2,hw⟩:=h2
 subst e
 refine nV (RR:=fun acc C=>compPost (model X.prog X.w) X.A X.xe (some (assign (.Name y py) X.env)) (fun _ s'=>SP X pins D0 .next s') acc C) S hc c1 c2 hg ht he I2 T st2 f2 hw fun D C H' s' fC I' hm q=>?_
 obtain⟨m,hm⟩:=hm
 obtain⟨g0,g1,_,g3,g4,g5⟩:=fC
 show wpAny _ X.A (assign (.Name y py) X.env (.ref D)) _ _ _
 refine wpAny_assign_Name (pY I' hN hix (.inl hy) (v:=.ref D) rfl (fun s'' I'' sb=>?_) (.inr hy))
 obtain⟨a,sb,ha⟩:=sb
 have hne:C≠a:=by
  rcases ha with z|z
  ·rw[z];exact g1
  ·exact fun z'=>g4 y a z z'.symm
 refine⟨m,hm.sameBut sb hne,fun h' sb'=>⟨_,H',I''.turned (t':=s''.toks) (fun b o hb e=>(sb'.2 b hb).trans e) g0 g1 g3 g4 g5,q⟩⟩
end
end L2
namespace L2
open PySem PySem.Spec PyProof.Rows
section
variable {P:Program} {w:World} {K:PySem.W.Frag} {mg:Str→Option Value} {base:Heap} {N:List Str} {qual:Str} {scope:Scope} {f:Addr} {cd:Value} {A:Around} {outer:List Env} {s:Shared} {H:Hp} {E:XK}
end
end L2
namespace L2
open PySem PySem.Spec PyProof.Rows PySem.W
abbrev bmV:List Value:=[.type "ValueError",.type "Exception",.type "BaseException",.type "object"]
structure ECls(K:PySem.W.Frag)(C:Addr):Prop where
 ex:PySem.W.excIn K C bmV "ValueError.__new__"=true
 kp:PySem.W.keepIn K (.ref C)=true
 ga:PySem.W.findIn K (.ref C) "__getattribute__"=some (some (.builtin "BaseException.__getattribute__"))
 gt:PySem.W.findIn K (.ref C) "__getattr__"=some none
 cl:PySem.W.findIn K (.ref C) "__class__"=some (some (.builtin "object.__class__"))
 mo:PySem.W.mroIn K C (.type "object")=some true
 mb:PySem.W.mroIn K C (.type "BaseException")=some true
 ty:(PySem.W.clsIn K C).isSome=true
def IsX(p:Addr)(C:Value)(h:Heap):Prop:=∃o,h.get? p=some o∧o.cls=C
abbrev excO(p:Addr)(C:Value):HO:=.ext (IsX p C)
theorem bU.get{P:Program}{w:World}{H:Hp}{h:Heap}{a:Addr}{o:HO}(x:bU P w H h a o):∃u,h.get? a=some u:=by
 cases o with
 |lst xs=>obtain⟨_,_,_,_,e⟩:=x;exact⟨_,e⟩
 |tup xs=>obtain⟨_,_,_,ob,e,_⟩:=x;exact⟨_,e⟩
 |dK kvs=>obtain⟨_,_,_,_,o,_,_,e,_⟩:=x;exact⟨_,e⟩
 |dT kvs=>obtain⟨_,_,_,_,o,_,_,e,_⟩:=x;exact⟨_,e⟩
 |set S n=>obtain⟨o,_,_,_,e,_⟩:=x;exact⟨_,e⟩
 |ins C dx fs=>obtain⟨_,_,_,e,_⟩:=x;exact⟨_,e⟩
 |own y=>exact x
 |xd fs=>obtain⟨_,⟨_,_,_,e,_⟩,_⟩:=x;exact⟨_,e⟩
 |rng lo hi=>obtain⟨_,_,_,e⟩:=x;exact⟨_,e⟩
 |frz ob u=>obtain⟨e,_⟩:=x;exact⟨_,e⟩
 |tbl ps=>exact⟨_,(show h.get? a=some _ from x)⟩
 |met f y=>exact⟨_,(show h.get? a=some _ from x)⟩
 |ext φ=>exact x.2.1
theorem HOk.freshN{P:Program}{w:World}{H:Hp}{h:Heap}{a:Addr}(x:HOk P w H h)(e:h.get? a=none):H a=none:=by
 cases q:H a with
 |none=>rfl
 |some u=>obtain⟨o,z⟩:=(x a u q).get;rw[e] at z;cases z
theorem Inv.laidN{X:Cx}{pins:List (Addr×Obj)}{σ:St}{H:Hp}{s:Shared}{h':Heap}{a:Addr}{o:HO}{t':Nat}(I:Inv X pins σ H s)(k:∀b u,s.heap.get? b=some u→h'.get? b=some u)(hp:s.heap.get? a=none)(new:bU X.prog X.w (upd H a o) h' a o):
  Inv X pins σ (upd H a o) { s with heap:=h',toks:=t' }:=by
 have hn:=I.hok.freshN hp
 have ne:∀b u,s.heap.get? b=some u→b≠a:=fun b u e z=>by rw[z,hp] at e;cases e
 refine I.un ⟨fun b u e _ _ _=>k b u e,fun b u e _ _ _=>⟨u.slots,k b u e⟩,fun b u e n _=>by rw[aH (ne b u e)];exact n,fun b u e _=>⟨u,k b u e⟩,fun b xs e=>by rw[aH (aG e hn)];exact e,fun b u v e=>by rw[aH (aG e hn)];exact e,fun b ps e=>⟨#[],by rw[aH (aG e hn),e];simp⟩⟩ fun b u e=>?_
 by_cases hb:b=a
 ·subst hb;rw[aB] at e;cases e;exact new
 ·rw[aH hb] at e
  exact(I.hok b u e).stay (fun c v _ q=>k c v q) (fun c q=>by rw[aH (aG q hn)];exact q) fun c xs q=>by rw[aH (aG q hn)];exact q
section
variable {prog:Program} {w:World} {A:Around} {E:Value→Shared→Prop} {s:Shared} {K:PySem.W.Frag} {x C:Addr} {ox:Obj}
theorem wH{M:Model}{h:Heap}(hx:h.get? x=some ox)(hc:ox.cls=.ref C):PySem.W.Looks M h (typeOf (.ref x)) (.ref C):=hc ▸ (PySem.W.Looks.ld hx).andThen .now
open Builtin Builtin.ObjectAttr Builtin.Getset_descriptor in
theorem yG{tp:Value}{R:Result→Shared→Prop}(X:K.In s.heap)(hx:s.heap.get? x=some ox)(hc:ox.cls=.ref C)(hm:PySem.W.mroIn K C (.type "object")=some true)(h:R (.ok (.ret (.ref C))) s):codeAny (model prog w) A (.call (.builtin "getset_descriptor.__get__") ⟨[.builtin "object.__class__",.ref x,tp],[]⟩) R s:=by
 obtain⟨hh,g,dr,t,os⟩:=s
 have L0:=wH (M:=model prog w) hx hc
 have L1:=looks_mroIn (M:=model prog w) X hm
 refine codeAny_call_builtin KF.slot_gs.plain KF.entry_gs (KF.slot_gs.check _ _ _ _ _ _ _ _ KF.type_class (KF.args_gs _ _ _) ?_)
 unfold Builtin.«getset_descriptor.__get__» descrGet
 rw[dga_obj]
 refine wpAny_bind (wpAny_pure ?_)
 unfold descrGetter descrCheckInstance descrNameAndClass isInstance
 simp only[KF.owner_class]
 repeat lk
 refine⟨Code.quiet_builtin _ (by decide +kernel),codeAny_builtin KF.entry_class ?_⟩
 unfold Builtin.«object.__class__» shownTypeOf
 repeat lk
 exact h
theorem aAB{tk:Tok}{Q:Fin→Shared→Prop}{h:Heap}{g d t os}(T:ECls K C)(X:K.In h)(hx:h.get? x=some ox)(hc:ox.cls=.ref C)(hq:Q (.done (.ret (.ref C))) ⟨h,g,d,t,os⟩):
  wpAny (model prog w) A (Builtin.«object.__getattribute__» ⟨[.ref x,.str "__class__" tk],[]⟩) Q E ⟨h,g,d,t,os⟩:=by
 have f5:=F.typeOf_bexc_args
 have hT5:(⟨h,g,d,t,os⟩:Shared).TypeIs (.builtin "object.__class__") "getset_descriptor":=PySem.F.typeOf_object_class
 have f5':=PySem.F.typeOf_object_class
 have f6:=F.slot_gs_get.lookup
 have f7:=F.slot_gs_set.lookup
 have L1:=looks_findIn (M:=model prog w) X T.cl
 repeat (any_goals (first|assumption|(with_reducible refine wpAny_loadPart_at hx ?_;rw[hc])|with_reducible refine L1.at ?_|wp_step))
 refine yG (s:=⟨h,g,d,t,os⟩) X hx hc T.mo ?_
 repeat (any_goals (first|assumption|wp_step))
theorem aAC{M:Model}{nameV:Value}{Q:Unit→Shared→Prop}{h:Heap}{g d t os}(T:ECls K C)(X:K.In h)(hx:h.get? x=some ox)(hc:ox.cls=.ref C)(hq:Q () ⟨h,g,d,t,os⟩):
  wpAny M A (checkBuiltinCall "BaseException.__getattribute__" ⟨[.ref x,nameV],[]⟩) Q E ⟨h,g,d,t,os⟩:=by
 have hk:builtinKind "BaseException.__getattribute__"=some .slot:=by decide +kernel
 have hsplit:splitId "BaseException.__getattribute__"=some ("BaseException","__getattribute__"):=by decide +kernel
 have ha:=F.args_bexc_ga (.ref x) nameV
 have L1:=looks_mroIn (M:=M) X T.mb
 simp only[checkBuiltinCall,hk,hsplit]
 refine wpAny_bind ?_
 ·unfold isInstance
  repeat (first|(with_reducible refine wpAny_loadPart_at hx ?_;rw[hc])|with_reducible refine L1.at ?_|wp_step)
  exact hq
theorem aDZ{tk:Tok}{fill expr:Bool}{Q:Value→Shared→Prop}{h:Heap}{g d t os}(T:ECls K C)(X:K.In h)(hx:h.get? x=some ox)(hc:ox.cls=.ref C)(hq:Q (.ref C) ⟨h,g,d,t,os⟩):
  wpAny (model prog w) A (getAttrBy (.ref x) (.str "__class__" tk) fill expr) Q E ⟨h,g,d,t,os⟩:=by
 have f3:=F.attr_ValueError.ga.bind (.ref x)
 have hx0:(expr&&onTheHeap (Value.builtin "BaseException.__getattribute__"))=false:=by cases expr <;> rfl
 have hx2:(Value.builtin "BaseException.__getattribute__"==Value.builtin "object.__getattribute__")=false:=by decide +kernel
 have hx1:(onTheHeap (Value.ref C)&&Value.builtin "BaseException.__getattribute__"==Value.builtin "object.__getattribute__")=false:=by rw[hx2];rfl
 have L1:=looks_findIn (M:=model prog w) X T.ga
 have L2:=looks_findIn (M:=model prog w) X T.gt
 repeat (any_goals (first|assumption|(with_reducible refine wpAny_loadPart_at hx ?_;rw[hc])|with_reducible refine L1.at ?_|with_reducible refine L2.at ?_|wp_step))
 refine codeAny_call_builtin F.attr_ValueError.ga.plain F.entry_bexc_ga (aAC T X hx hc (aAB T X hx hc ?_))
 repeat (any_goals (first|assumption|wp_step))
theorem aBK{Q:Option Value→Shared→Prop}{h:Heap}{g d t os}(T:ECls K C)(X:K.In h)(hx:h.get? x=some ox)(hc:ox.cls=.ref C)(hq:Q (some (.ref C)) ⟨h,g,d,t+1,os⟩):
  wpAny (model prog w) A (getAttr? (.ref x) "__class__") Q E ⟨h,g,d,t,os⟩:=by
 unfold getAttr?
 repeat (any_goals (first|assumption|with_reducible apply aDZ T X hx hc|wp_step))
theorem sV(T:ECls K C):PySem.W.KitX K (.ref x) (.ref C) (IsX x (.ref C)) where
 ty:=fun _ _ _ ⟨o,e,c⟩=>wH e c
 it:=fun _ _ X _=>by
  obtain⟨cdD,hcD⟩:=Option.isSome_iff_exists.mp T.ty
  unfold clsIn at hcD
  split at hcD
  ·rename_i c' d' cd' sl' ho
   intro A' Q' E' s' k q
   unfold isType loadHead
   exact wpAny_bind (wpAny_loadPart (k _ _ (X _ _ ho)) (wpAny_pure q))
  ·cases hcD
 ne:=fun h tp dd its n sl X htp=>by
  obtain⟨cdD,hcD⟩:=Option.isSome_iff_exists.mp T.ty
  refine Bool.eq_false_iff.mpr fun q=>?_
  have e:C=tp:=Value.ref.inj (beq_iff_eq.mp q)
  subst e
  unfold clsIn at hcD
  split at hcD
  ·rename_i c' d' cd' sl' ho
   have z:=(X _ _ ho).symm.trans htp
   cases z
  ·cases hcD
 ca:=fun {_ _ _ _ _ s} X ⟨o,e,c⟩ k=>by
  obtain⟨h,g,d,t,os⟩:=s
  exact aBK T X e c k
end
section
variable {X:Cx}
inductive TyX (K:PySem.W.Frag) (H:Hp):V→Value→Prop where
 |of {v:V} {t:Value} (h:TyOf K H v t):TyX K H v t
 |exc {p C:Addr} (T:ECls K C) (e:H p=some (excO p (.ref C))):TyX K H (.ref p) (.ref C)
def rIsi(K:PySem.W.Frag):List V→Hp→VK→Prop:=fun xs H Q=>∃x c cv t b,xs=[x,c]∧(c=.ty cv∧PySem.W.kitOne K t (.type cv)=some b)∧TyX K H x t∧Q (.bl b) H
theorem fY:cU X (.builtin "isinstance") (rIsi X.K):=by
 intro pins s σ H xs us Q I r h
 obtain⟨x,c,cv,t,b,rfl,⟨rfl,e⟩,ty,q⟩:=h
 obtain⟨u1,u2,rfl,r1,r2⟩:=r.two
 obtain rfl:u2=Value.type cv:=r2
 cases ty with
 |of ty=>exact qA I r1 ty e fun tk=>⟨.bl b,H,I.tok tk,rfl,q⟩
 |@exc p C T ea=>
  obtain rfl:u1=Value.ref p:=r1
  have p1:IsX p (.ref C) s.heap:=(I.hok p _ ea).1
  exact PySem.W.kia_one (sV T) I.kIn p1 e (fun z=>nomatch z) fun tk=>⟨.bl b,H,I.tok tk,rfl,q⟩
def aEK(K:PySem.W.Frag):List V→Hp→VK→Prop:=fun xs H Q=>∃x c t b,xs=[x,.ref c]∧PySem.W.kitOne K t (.ref c)=some b∧TyX K H x t∧Q (.bl b) H
theorem aAD:cU X (.builtin "isinstance") (aEK X.K):=by
 intro pins s σ H xs us Q I r h
 obtain⟨x,c,t,b,rfl,e,ty,q⟩:=h
 obtain⟨u1,u2,rfl,r1,r2⟩:=r.two
 obtain rfl:u2=Value.ref c:=r2
 cases ty with
 |of ty=>exact qA I r1 ty e fun tk=>⟨.bl b,H,I.tok tk,rfl,q⟩
 |@exc p C T ea=>
  obtain rfl:u1=Value.ref p:=r1
  have p1:IsX p (.ref C) s.heap:=(I.hok p _ ea).1
  exact PySem.W.kia_one (sV T) I.kIn p1 e (fun z=>nomatch z) fun tk=>⟨.bl b,H,I.tok tk,rfl,q⟩
end
section
variable {X:Cx} {x:Str} {C:Addr} {np cpos pos:Pos} {e:Expr} {es:List Expr} {t:TA}
end
end L2
namespace L2
open PySem PySem.Spec PyProof.Rows
section
variable {X:Cx} {CX:CXT} {k:Nat} {f C:Addr} {fd:FuncData} {ps:List Str} {sp:Sp} {dvs:List V} {ds:List Value} {E:St→XK} {x m:Str} {p pos apos:Pos} {e o:Expr} {es:List Expr} {ta:TE} {t:TA}
end
section
variable {X:Cx} {CX:CXT} {k:Nat} {f:Addr} {fd:FuncData} {ps:List Str} {sp:Sp} {dvs:List V} {ds:List Value} {E:XK} {x:Str} {p pos:Pos} {e:Expr} {es:List Expr} {t:TA}
end
section
variable {P:Program} {w:World} {K:PySem.W.Frag} {mg:Str→Option Value} {base:Heap}
end
end L2
namespace L2
open PySem PySem.Spec PyProof.Rows
section
variable {X:Cx} {pins:List (Addr×Obj)} {σ:St} {H:Hp} {s:Shared}
end
end L2
namespace L2
open PySem PySem.Spec PyProof.Rows PySem.W
theorem aCT{h:Heap}{a:Addr}{m m':Str→Option Value}(x:h.Ns a m)(y:h.Ns a m'):m=m':=by
 obtain⟨o,es,ep,e,d,_,q⟩:=x
 obtain⟨o',es',ep',e',d',_,q'⟩:=y
 rw[e] at e';cases e'
 rw[d] at d';cases d'
 funext z
 rw[← q z,q' z]
theorem Inv.fromK{X:Cx}{pins:List (Addr×Obj)}{σ:St}{H:Hp}{s:Shared}{h':Heap}{m:Str→Option Value}{D:Addr}{o:HO}{t':Nat}(I:Inv X pins σ H s)(F:Fr X.base X.env.locals s.heap m)(F':Fr X.base X.env.locals h' m)(N':News X.base X.env.locals h' (fV X.base s.heap X.env.locals))(hD:s.heap.get? D=none)(new:bU X.prog X.w (upd H D o) h' D o):Inv X pins σ (upd H D o) { s with heap:=h',toks:=t' }:=by
 have hn:=I.hok.freshN hD
 have ne:∀b u,s.heap.get? b=some u→b≠D:=fun b u e z=>by rw[z,hD] at e;cases e
 have keep:∀b u,b≠X.env.locals→s.heap.get? b=some u→h'.get? b=some u:=fun b u hb e=>by
  cases q:X.base.get? b with
  |some v=>
   have:=I.bk b v q
   rw[e] at this;cases this
   exact F'.keep b _ q
  |none=>exact(N' (b,u) (jA hb q e)).1
 refine I.step (g':=s.gens) (d':=s.drawn) (ch:=[]) (fun _ z=>absurd z (by simp)) (fun b u hb _ _ e _=>keep b u hb e) (fun b u hb _ _ e _=>⟨u.slots,keep b u hb e⟩) (fun b u _ e n=>by rw[aH (ne b u e)];exact n) (fun b u _ e=>?_)
  (fun b xs e=>by rw[aH (aG e hn)];exact e) (fun b u v e=>by rw[aH (aG e hn)];exact e) (fun b ps e=>⟨#[],by rw[aH (aG e hn),e];simp⟩) (fun m1 hm=>by rw[aCT hm F.ns];exact F'.ns) (fun b u e=>?_) I.bare
 ·by_cases hb:b=X.env.locals
  ·obtain⟨o',_,_,q,_⟩:=F'.ns
   exact⟨o',by rw[hb];exact q⟩
  ·exact⟨u,keep b u hb e⟩
 ·by_cases hb:b=D
  ·subst hb;rw[aB] at e;cases e;exact new
  ·rw[aH hb] at e
   refine(I.hok b u e).stay (fun c v hc q=>keep c v ?_ q) (fun c q=>by rw[aH (aG q hn)];exact q) fun c xs q=>by rw[aH (aG q hn)];exact q
   rintro rfl
   rcases hc with z|hc
   ·have f:=I.free;rw[z,e] at f;cases f
   ·rw[I.free] at hc;cases hc
theorem qY{X:Cx}{pins:List (Addr×Obj)}{σ:St}{H:Hp}{s:Shared}{h':Heap}{D:Addr}{o:Obj}(I:Inv X pins σ H s)(N:News X.base X.env.locals h' ((D,o)::fV X.base s.heap X.env.locals))(hlt:∀q∈fV X.base s.heap X.env.locals,q.1<D):s.heap.get? D=none:=by
 cases e:s.heap.get? D with
 |none=>rfl
 |some u=>
  obtain⟨_,n1,n2⟩:=N (D,o) List.mem_cons_self
  exact absurd (hlt (D,u) (jA n1 n2 e)) (Nat.lt_irrefl _)
end L2
namespace L2
open PySem PySem.Spec PyProof.Rows PySem.W
def aAE(K:PySem.W.Frag)(H:Hp)(a:Addr)(y:Int×Int):Prop:=SqT K H a [.int y.1,.int y.2]
section
variable {X:Cx}
theorem yH{pins:List (Addr×Obj)}{σ:St}{H:Hp}{s:Shared}{a:Addr}{y:Int×Int}(I:Inv X pins σ H s)(h:aAE X.K H a y):∃o n t u,s.heap.get? a=some o∧o.cls=.type "tuple"∧o.data=.seq #[.int y.1 t,.int y.2 u] n:=by
 obtain⟨its,r,p,_⟩:=I.tuple h
 obtain⟨u1,u2,rfl,r1,r2⟩:=r.two
 obtain⟨t,rfl⟩:=r1
 obtain⟨t',rfl⟩:=r2
 obtain⟨o,e,c,n,d⟩:=p
 exact⟨o,n,t,t',e,c,d⟩
end
end L2
namespace L2
open PySem PySem.Spec PyProof.Rows PySem.W
def hAt(hs:Array Int)(i:Nat):Int:=(hs[i]?).getD 0
def eF(hs:Array Int)(t:SetTable)(h:Int):Option (Array Int×SetTable):=
 if t.gaveWay then none else
 match t.probe (hAt hs) h (t.probeStart h) with
 |some (.empty j none)=>
  let q:=t.put j
  let hs1:=SetTable.insertAt hs q.2 h
  if q.1.fits hs1.size&&decide (hs1.size≤4096) then
   if q.1.tooFull then
    (match q.1.relaid hs1 (SetTable.grown (hs.size+1)) with
    |some (t2,order)=>
     let hs2:=order.filterMap (hs1[·]?)
     if hs2.size==hs1.size&&t2.fits hs2.size&&decide (SetTable.sizeAbove (SetTable.grown (hs.size+1))≤4096) then some (hs2,t2) else none
    |none=>none)
   else some (hs1,q.1)
  else none
 |_=>none
def nW(led:Bool):List Int→Option (Array Int×SetTable):=fun l=>l.foldlM (fun q h=>eF q.1 q.2 h) (#[],SetTable.fresh 0 0 led)
def fN(h:Heap)(S:Addr)(hs:Array Int)(t:SetTable):Prop:=∃o es ep,h.get? S=some o∧o.cls=.type "set"∧(o.dict=none∧o.slots=#[])∧o.data=.set es ep t∧es.map (·.1)=hs∧t.fits es.size=true
section
variable {prog:Program} {w:World} {A:Around} {E:Value→Shared→Prop} {s:Shared} {S:Addr}
theorem aD0(es:Array (Int×Value)):(fun i=>(es[i]?.map (·.1)).getD 0)=hAt (es.map (·.1)):=by
 funext i
 unfold hAt
 rw[Array.getElem?_map]
theorem kT(es:Array (Int×Value))(p:Nat)(x:Int×Value):(SetTable.insertAt es p x).map (·.1)=SetTable.insertAt (es.map (·.1)) p x.1:=by
 unfold SetTable.insertAt
 simp
theorem kU(es:Array (Int×Value))(order:Array Nat):(order.filterMap (es[·]?)).map (·.1)=order.filterMap ((es.map (·.1))[·]?):=by
 apply Array.ext'
 rw[Array.toList_map,Array.toList_filterMap,Array.toList_filterMap,List.map_filterMap]
 congr 1
 funext i
 rw[Array.getElem?_map]
theorem yI{hs:Array Int}{t:SetTable}{h:Int}{x:Value}{j:Nat}{Q:SetFound→Shared→Prop}(hS:fN s.heap S hs t)(hg:t.gaveWay=false)(hp:t.probe (hAt hs) h (t.probeStart h)=some (.empty j none))(q:Q (.free j false) s):
  wpAny (model prog w) A (setSearch S x h true) Q E s:=by
 obtain⟨o,es,ep,ho,hc,hdi,hd,hm,hf⟩:=hS
 unfold setSearch setSearchFrom
 refine wpAny_bind (wpAny_setState_of ho hd hf ?_)
 dsimp only
 rw[hg,if_neg Bool.false_ne_true]
 have hp':t.probe (fun i=>(es[i]?.map (·.1)).getD 0) h (t.probeStart h)=some (.empty j none):=by rw[aD0,hm];exact hp
 refine wpAny_bind (wpAny_pure ?_)
 erw[hp']
 exact wpAny_pure q
theorem aAF{a:Addr}{o:Obj}{n:Nat}{x y:Int}{t u:Tok}{Q:Bool→Shared→Prop}(ho:s.heap.get? a=some o)(hc:o.cls=.type "tuple")(hd:o.data=.seq #[.int x t,.int y u] n)(q:Q true s):
  wpAny (model prog w) A (hashByValue 8 (.ref a)) Q E s:=by
 have hT:s.TypeIs (.ref a) "tuple":=⟨_,ho,hc⟩
 unfold hashByValue
 refine wpAny_bind (wpAny_specialOf hT PySem.F.slot_tuple_hash.lookup ?_)
 refine wpAny_bind (wpAny_seqItems ho hd ?_)
 refine wpAny_bind ?_
 show wpAny _ _ (forIn #[Value.int x t,Value.int y u] _ _) _ _ s
 rw[← Array.forIn_toList]
 refine wpAny_forIn_list _ (fun rest r s'=>r.1=none∧s'=s∧∀v∈rest,∃z k,v=Value.int z k) _ ?_ ?_ _ _ ⟨rfl,rfl,fun v hv=>?_⟩
 ·rintro v rest r s' ⟨hr,rfl,hall⟩
  obtain⟨z,k,rfl⟩:=hall v List.mem_cons_self
  refine wpAny_bind (wpAny_pure ?_)
  exact wpAny_pure ⟨rfl,rfl,fun u' hu'=>hall u' (List.mem_cons_of_mem _ hu')⟩
 ·rintro⟨r1,r2⟩ s' ⟨hr,rfl,_⟩
  have hr':r1=none:=hr
  subst hr'
  exact wpAny_pure q
 ·rcases List.mem_cons.mp hv with z|z
  ·exact⟨_,_,z⟩
  ·rcases List.mem_cons.mp z with z|z
   ·exact⟨_,_,z⟩
   ·cases z
theorem wI{hs:Array Int}{t t':SetTable}{es':Array (Int×Value)}(hS:fN s.heap S hs t)(hf:t'.fits es'.size=true)(hz:es'.size≤4096){Q:Unit→Shared→Prop}(q:∀h',Heap.SameBut S s.heap h'→fN h' S (es'.map (·.1)) t'→Q () { s with heap:=h' }):wpAny (model prog w) A (storeSet S es' t') Q E s:=by
 obtain⟨o,es,ep,ho,hc,hdi,hd,hm,_⟩:=hS
 refine wpAny_storeSet_of ho hd (q _ (Heap.SameBut.update s.heap S (Obj.putSet es' t')) ?_) (Nat.le_trans hz (by decide))
 have g:=Heap.get?_update_self (Obj.putSet es' t') ho (by rw[putSet_of es' t' hd];rfl)
 rw[putSet_of es' t' hd] at g
 exact⟨_,es',ep+1,g,hc,hdi,rfl,rfl,hf⟩
theorem aCU {hs hs' : Array Int} {t t' : SetTable} {a : Addr} {o : Obj} {n : Nat} {x y : Int} {tx ty : Tok} {Q : Bool → Shared → Prop} (hu : A.units < cLine) (hS : fN s.heap S hs t) (ho : s.heap.get? a = some o) (hc : o.cls = .type "tuple") (hd : o.data = .seq #[.int x tx, .int y ty] n) (hne : a ≠ S)
    (hst : eF hs t (tupleKeyHash (intKind prog w) [x, y]) = some (hs', t')) (q : ∀ h' tk, Heap.SameBut S s.heap h' → fN h' S hs' t' → Q true { s with heap := h', toks := tk }) : wpAny (model prog w) A (setAdd S (.ref a)) Q E s := by
  have hk : IsTupleKey (intKind prog w) s.heap [x, y] a := ⟨o, _, n, ho, hc, hd, .cons (intKind_is _ _ _ _) (.cons (intKind_is _ _ _ _) .nil)⟩
  unfold setAdd
  refine wpAny_holding (wpAny_bind (wpAny_pyHash_tuple hu hk ?_))
  generalize htk : s.toks + ([x, y].length + 1) = tk
  generalize hh : tupleKeyHash (intKind prog w) [x, y] = h at hst ⊢
  have hS0 := hS
  obtain ⟨ob, es, ep, hb, hbc, hbd, hbe, hm, hf⟩ := hS
  unfold setAddHashed setAddHashedIn
  refine wpAny_holding (wpAny_bind (wpAny_setState_of (s := { s with toks := tk }) hb hbe hf ?_))
  dsimp only
  have hbs : byScan (.ref a) es = false := by unfold byScan; rfl
  rw [hbs, if_neg Bool.false_ne_true]
  unfold eF at hst
  cases hg : t.gaveWay with
  | true => rw [hg, if_pos rfl] at hst; cases hst
  | false =>
    rw [hg, if_neg Bool.false_ne_true] at hst
    split at hst
    · rename_i j hp
      dsimp only at hst
      split at hst
      · rename_i hfz
        rw [Bool.and_eq_true, decide_eq_true_eq] at hfz
        refine wpAny_bind (yI (s := { s with toks := tk }) hS0 hg hp ?_)
        dsimp only
        refine wpAny_bind (wpAny_setState_of (s := { s with toks := tk }) hb hbe hf ?_)
        dsimp only
        have byv : ∀ {kk : Bool → Sem Bool}, wpAny (model prog w) A (kk true) Q E { s with toks := tk } → wpAny (model prog w) A (if (t.put j).1.plain = true then hashByValue 8 (.ref a) >>= kk else pure true >>= kk) Q E { s with toks := tk } := fun {kk} hP => by
          split
          · exact wpAny_bind (aAF (s := { s with toks := tk }) ho hc hd hP)
          · exact wpAny_bind (wpAny_pure hP)
        refine byv ?_
        simp only [if_true]
        have hsz : (SetTable.insertAt es (t.put j).2 (h, Value.ref a)).size = (SetTable.insertAt hs (t.put j).2 h).size := by
          rw [← hm, ← kT es (t.put j).2 (h, Value.ref a), Array.size_map]
        refine wpAny_bind (wI (s := { s with toks := tk }) hS0 (by rw [hsz]; exact hfz.1) (by rw [hsz]; exact hfz.2) fun h1 sb1 S1 => ?_)
        rw [kT, hm] at S1
        split at hst
        · rename_i htf
          rw [show (!false && (t.put j).1.tooFull) = true by rw [htf]; rfl, if_pos rfl]
          split at hst
          · rename_i t2 order hr
            split at hst
            · rename_i hq
              rw [Bool.and_eq_true, Bool.and_eq_true, decide_eq_true_eq, beq_iff_eq] at hq
              obtain ⟨⟨hq1, hq2⟩, hq3⟩ := hq
              cases hst
              have hes : es.size = hs.size := by rw [← hm, Array.size_map]
              refine wpAny_bind ?_
              unfold setRelay
              obtain ⟨o1, es1, ep1, g1, g2, g3, g4, g5, g6⟩ := id S1
              refine wpAny_bind (wpAny_setState_of (s := { s with heap := h1, toks := tk }) g1 g4 g6 ?_)
              dsimp only
              rw [hes]
              rw [if_neg (by have h4 : (4096 : Nat) ≤ sizeLine := by decide
                             lia)]
              refine wpAny_bind ?_
              rw [g5, hr]
              have hsz2 : (order.filterMap (es1[·]?)).size = es1.size := by
                have e1 := congrArg Array.size (kU es1 order)
                rw [Array.size_map, g5] at e1
                rw [e1, hq1, ← g5, Array.size_map]
              refine wpAny_of_eq (show _ = (pure (order.filterMap (es1[·]?), t') : Sem (Array (Int × Value) × SetTable)) from ?_) ?_
              · show (do
                  let es' := order.filterMap (es1[·]?)
                  if es'.size != es1.size then unsupported "internal:set-table-lost-an-element"
                  pure (es', t') : Sem (Array (Int × Value) × SetTable)) = _
                simp [hsz2]
              dsimp only
              have hle : es1.size ≤ 4096 := by
                have e1 := congrArg Array.size g5
                rw [Array.size_map] at e1
                rw [e1]
                exact hfz.2
              have hfm : (order.filterMap (es1[·]?)).size = (order.filterMap ((SetTable.insertAt hs (t.put j).2 h)[·]?)).size := by
                have e1 := congrArg Array.size (kU es1 order)
                rw [Array.size_map, g5] at e1
                exact e1
              refine wI (s := { s with heap := h1, toks := tk }) S1 (by rw [hfm]; exact hq2) (by rw [hsz2]; exact hle) fun h2 sb2 S2 => ?_
              rw [kU, g5] at S2
              exact wpAny_pure (q h2 tk (sb1.trans sb2) S2)
            · cases hst
          · cases hst
        · rename_i htf
          cases hst
          have htf' : (t.put j).1.tooFull = false := by simpa using htf
          rw [show (!false && (t.put j).1.tooFull) = false by rw [htf']; rfl, if_neg Bool.false_ne_true]
          exact wpAny_pure (q h1 tk sb1 S1)
      · cases hst
    · cases hst
end
end L2
namespace L2
open PySem PySem.Spec PyProof.Rows PySem.W
section
variable {prog:Program} {w:World} {A:Around} {E:Value→Shared→Prop} {s:Shared} {S Ia l:Addr} {R:Result→Shared→Prop}
def fZ(h:Heap)(vs:List Value)(ys:List (Int×Int)):Prop:=vs.length=ys.length∧∀i v,vs[i]?=some v→∃a o n t u,v=.ref a∧h.get? a=some o∧o.cls=.type "tuple"∧o.data=.seq #[.int (ys.getD i (0,0)).1 t,.int (ys.getD i (0,0)).2 u] n
theorem fZ.keeps{h h':Heap}{vs:List Value}{ys:List (Int×Int)}(p:fZ h vs ys)(k:∀b o,(∃xs n,o.data=.seq xs n)→h.get? b=some o→h'.get? b=some o):fZ h' vs ys:=
 ⟨p.1,fun i v e=>let ⟨a,o,n,t,u,e1,e2,c,d⟩:=p.2 i v e;⟨a,o,n,t,u,e1,k a o ⟨_,_,d⟩ e2,c,d⟩⟩
def dY(prog:Program)(w:World)(y:Int×Int):Int:=tupleKeyHash (intKind prog w) [y.1,y.2]
theorem aBL{vs:List Value}{ys:List (Int×Int)}{hsN:Array Int}{tN:SetTable}(hh:A.handled=none)(hu:A.units+1<cLine)(hlS:l≠S)(hlI:l≠Ia)(hSI:S≠Ia):
  ∀ (k i:Nat) (s:Shared) (hs:Array Int) (t:SetTable),vs.length-i=k→i≤vs.length→s.heap.IsListIter Ia l i→s.heap.IsList l vs.toArray→fZ s.heap vs ys→fN s.heap S hs t→
   ((ys.drop i).map (dY prog w)).foldlM (fun q h=>eF q.1 q.2 h) (hs,t)=some (hsN,tN)→
   (∀h' tk,(∀b o,b≠S→b≠Ia→s.heap.get? b=some o→h'.get? b=some o)→fN h' S hsN tN→R (.ok (.ret .none)) { s with heap:=h',toks:=tk })→
   codeAny (model prog w) A (.builtin "set.update.loop" ⟨[.ref S,.ref Ia],[]⟩) R s:=by
 intro k
 induction k with
 |zero=>
  intro i s hs t hk hi hit hl hp hS hf hR
  have e:i=vs.length:=by lia
  refine codeAny_builtin PyProof.Rows.F.entry_set_update_loop ?_
  rw[Around.under_plainId PyProof.Rows.F.plain_set_update_loop _]
  show wpAny _ A.in1 (pyNext (.ref Ia) >>= _) _ _ s
  refine wpAny_bind (wpAny_pyNext_list_end (show A.in1.handled=none from hh) hit hl (by simp;lia) fun h' eb=>?_)
  show wpAny _ A.in1 (ret Value.none) _ _ _
  have hd:ys.drop i=[]:=by rw[List.drop_eq_nil_iff];have:=hp.1;lia
  rw[hd] at hf
  cases hf
  obtain⟨o,es,ep,q1,q2⟩:=hS
  exact wpAny_pure (hR h' s.toks (fun b o hb hbI e=>eb b o hbI e) ⟨o,es,ep,eb S o hSI q1,q2⟩)
 |succ k ih=>
  intro i s hs t hk hi hit hl hp hS hf hR
  have hlt:i<vs.length:=by lia
  refine codeAny_builtin PyProof.Rows.F.entry_set_update_loop ?_
  rw[Around.under_plainId PyProof.Rows.F.plain_set_update_loop _]
  show wpAny _ A.in1 (pyNext (.ref Ia) >>= _) _ _ s
  have hv:vs[i]?=some vs[i]:=List.getElem?_eq_getElem hlt
  refine wpAny_bind (wpAny_pyNext_list_item hit hl (x:=vs[i]) (by simpa using hv) fun h1 hit1 sb1=>?_)
  obtain⟨a,o,n,tx,ty,ea,eo,ec,ed⟩:=hp.2 i _ hv
  rw[ea]
  have neI:∀b ob,(∃xs n,ob.data=.seq xs n)→s.heap.get? b=some ob→b≠Ia:=fun b ob ⟨xs,m,z⟩ e z'=>by
   obtain⟨oi,e1,_,d1⟩:=hit
   rw[z',e1] at e;cases e
   rw[d1] at z;cases z
  have hp1:fZ h1 vs ys:=hp.keeps fun b ob hb e=>(sb1.2 b (neI b ob hb e)).trans e
  have hS1:fN h1 S hs t:=by
   obtain⟨oS,es,ep,q1,q2⟩:=hS
   exact⟨oS,es,ep,(sb1.2 S hSI).trans q1,q2⟩
  have hl1:h1.IsList l vs.toArray:=by
   obtain⟨ol,q1,q2⟩:=hl
   exact⟨ol,(sb1.2 l hlI).trans q1,q2⟩
  have eo1:h1.get? a=some o:=(sb1.2 a (neI a o ⟨_,_,ed⟩ eo)).trans eo
  have neS:∀b ob,(∃xs n,ob.data=.seq xs n)→h1.get? b=some ob→b≠S:=fun b ob ⟨xs,m,z⟩ e z'=>by
   obtain⟨oS,es,ep,q1,_,_,q4,_⟩:=hS1
   rw[z',q1] at e;cases e
   rw[q4] at z;cases z
  have hi2:i<ys.length:=by have:=hp.1;lia
  have hdr:ys.drop i=ys[i]::ys.drop (i+1):=List.drop_eq_getElem_cons hi2
  have hgy:ys.getD i (0,0)=ys[i]:=by rw[List.getD_eq_getElem?_getD,List.getElem?_eq_getElem hi2];rfl
  rw[hdr,List.map_cons,List.foldlM_cons] at hf
  cases hst:eF hs t (dY prog w ys[i]) with
  |none=>rw[hst] at hf;cases hf
  |some q=>
   obtain⟨hs2,t2⟩:=q
   rw[hst] at hf
   have hf2:((ys.drop (i+1)).map (dY prog w)).foldlM (fun q h=>eF q.1 q.2 h) (hs2,t2)=some (hsN,tN):=hf
   show wpAny _ A.in1 (holding [Value.ref a] (setAdd S (.ref a)) >>= _) _ _ _
   refine wpAny_bind (wpAny_holding (aCU (s:={ s with heap:=h1 }) (by show A.units+1<cLine;exact hu) hS1 eo1 ec ed (neS a o ⟨_,_,ed⟩ eo1) (hs':=hs2) (t':=t2) (by rw[hgy];exact hst) fun h2 tk sb2 S2=>?_))
   refine wpAny_pure ⟨plainId_quiet PyProof.Rows.F.plain_set_update_loop _,?_⟩
   refine ih (i+1) { s with heap:=h2,toks:=tk } hs2 t2 (by lia) hlt ?_ ?_ (hp1.keeps fun b ob hb e=>(sb2.2 b (neS b ob hb e)).trans e) S2 hf2 fun h3 tk3 k3 S3=>?_
   ·obtain⟨oi,q1,q2⟩:=hit1
    exact⟨oi,(sb2.2 Ia (Ne.symm hSI)).trans q1,q2⟩
   ·obtain⟨ol,q1,q2⟩:=hl1
    exact⟨ol,(sb2.2 l hlS).trans q1,q2⟩
   ·exact hR h3 tk3 (fun b ob hb hbI e=>k3 b ob hb hbI ((sb2.2 b hb).trans ((sb1.2 b hbI).trans e))) S3
theorem aBM{vs:List Value}{ys:List (Int×Int)}{hsN:Bool→Array Int}{tN:Bool→SetTable}{Q:Value→Shared→Prop}(hh:A.handled=none)(hu:A.units+8<cLine)(hl:s.heap.IsList l vs.toArray)(hp:fZ s.heap vs ys)(hrun:∀led,nW led (ys.map (dY prog w))=some (hsN led,tN led))(h:∀ (led:Bool) (h':Heap) (tk:Nat),fN h' s.heap.objs.size (hsN led) (tN led)→(∀b o,b<s.heap.objs.size→s.heap.get? b=some o→h'.get? b=some o)→Q (.ref s.heap.objs.size) { s with heap:=h',toks:=tk }):
  wpAny (model prog w) A (call (.type "set") [.ref l]) Q E s:=by
 obtain⟨c,tl,hmro⟩:=PySem.F.called_set.mro
 have c1:=PySem.F.called_set.made
 have c2:=PySem.F.called_set.sub
 refine wpAny_call (codeAny_of_tree ?_)
 show wpAny _ _ (callAny (.type "set") _) _ _ _
 refine wpAny_pure ⟨Code.quiet_builtin _ (by decide +kernel),codeAny_builtin PySem.F.entry_type_call ?_⟩
 rw[Around.under_plain (weight_type_call_type "set" [.ref l] []) rfl]
 have c3:=PySem.F.called_set.notType
 have c4:=PySem.F.called_set.canCreate
 have c5:=PySem.F.typeCall_set_1 (.ref l)
 repeat (any_goals (first|assumption|wp_step))
 refine codeAny_mono (code_set_new_1 (.ref l) (E:=E) (Q₁:=fun obj s₁=>∃led:Bool,obj=.ref s.heap.objs.size∧s₁={ s with heap:=s.heap.push { cls:=.type "set",dict:=none,data:=.set #[] 0 (.fresh 0 0 led) } }) fun led=>⟨led,rfl,rfl⟩) fun r s₁ hr=>?_
 cases r with
 |error e=>exact hr
 |ok fl=>
  cases fl with
  |next=>exact hr.elim
  |brk=>exact hr.elim
  |cont=>exact hr.elim
  |ret obj=>
   obtain⟨led,rfl,rfl⟩:=hr
   generalize hpu:s.heap.push { cls:=.type "set",dict:=none,data:=.set #[] 0 (.fresh 0 0 led) }=hS
   have hsz:hS.objs.size=s.heap.objs.size+1:=by rw[← hpu,Heap.size_push]
   have gS:hS.get? s.heap.objs.size=some { cls:=.type "set",dict:=none,data:=.set #[] 0 (.fresh 0 0 led) }:=by rw[← hpu];exact Heap.get?_push_size _ rfl
   have up:∀b o,s.heap.get? b=some o→hS.get? b=some o:=fun b o e=>by rw[← hpu];exact Heap.get?_push_of_some _ e
   have hT:Shared.TypeIs { s with heap:=hS } (.ref s.heap.objs.size) "set":=⟨_,gS,rfl⟩
   have c6:=PySem.F.called_set.init.lookup
   have c7:=PySem.F.called_set.init.bind (.ref s.heap.objs.size)
   repeat (any_goals (first|assumption|wp_step))
   refine codeAny_mono (codeAny_call_builtin (R:=wants (fun r s₂=>r=.none∧∃h' tk,s₂={ s with heap:=h',toks:=tk }∧fN h' s.heap.objs.size (hsN led) (tN led)∧
     (∀b o,b<s.heap.objs.size→s.heap.get? b=some o→h'.get? b=some o)) E) PySem.F.called_set.init.plain PySem.F.entry_set_init (check_set_init_1 hT ?_)) fun r₂ s₂ hr₂=>?_
   ·obtain⟨ol,hol,hcl,nl,hdl⟩:=hl
    obtain⟨ocls,odict,odata,oslots⟩:=ol
    simp only at hcl hdl
    subst hcl;subst hdl
    have hol':=up _ _ hol
    have c8:=PySem.F.sub_list_set
    have c9:=PySem.F.sub_list_frozenset
    have c10:(Value.type "list"==Value.type "dict")=false:=by decide
    have hl1:hS.IsList l vs.toArray:=⟨_,hol',rfl,nl,rfl⟩
    unfold Builtin.«set.__init__» noKeywords Builtin.Frozenset.updateFrom
    generalize hPI:pyIter=PI
    wp_walk
    subst hPI
    refine wpAny_pyIter_list hl1 ?_
    refine wpAny_bind (wpAny_runValue ?_)
    have hlt:l<s.heap.objs.size:=Heap.lt_size hol
    refine aBL (l:=l) (vs:=vs) (ys:=ys) (hsN:=hsN led) (tN:=tN led) (by simp[hh]) (by simp;lia) (Nat.ne_of_lt hlt) (by rw[hsz];exact Nat.ne_of_lt (Nat.lt_succ_of_lt hlt)) (by rw[hsz];exact Nat.ne_of_lt (Nat.lt_succ_self _))
     (vs.length-0) 0 _ #[] (.fresh 0 0 led) rfl (Nat.zero_le _) ⟨_,Heap.get?_push_size _ rfl,rfl,rfl⟩ (hl1.push _) (hp.keeps fun b o _ e=>Heap.get?_push_of_some _ (up b o e)) ⟨_,#[],0,Heap.get?_push_of_some _ gS,rfl,⟨rfl,rfl⟩,rfl,by simp,rfl⟩ (hrun led) fun h' tk k S'=>?_
    show wpAny _ _ _ _ _ _
    refine wpAny_pure ?_
    show wpAny _ _ (ret Value.none) _ _ _
    refine wpAny_pure ⟨rfl,h',tk,rfl,S',fun b o hb e=>?_⟩
    exact k b o (Nat.ne_of_lt hb) (by rw[hsz];exact Nat.ne_of_lt (Nat.lt_succ_of_lt hb)) (Heap.get?_push_of_some _ (up b o e))
   ·cases r₂ with
    |error e=>exact hr₂
    |ok fl₂=>
     cases fl₂ with
     |next=>exact hr₂.elim
     |brk=>exact hr₂.elim
     |cont=>exact hr₂.elim
     |ret r=>
      obtain⟨rfl,h',tk,rfl,S',k⟩:=hr₂
      repeat (any_goals (first|assumption|wp_step))
      exact h led h' tk S' k
end
end L2
namespace L2
open PySem
def aAG(l:List Nat):Nat:=l.foldl (fun a x=>a ||| (1 <<< x)) 0
theorem aAH(l:List Nat)(a j:Nat):(l.foldl (fun a x=>a ||| (1 <<< x)) a).testBit j=(a.testBit j||l.contains j):=by
 induction l generalizing a with
 |nil=>simp
 |cons x xs ih=>
  rw[List.foldl_cons,ih,Nat.testBit_or,List.contains_cons]
  have:(1 <<< x).testBit j=(j==x):=by
   rw[Nat.one_shiftLeft,Nat.testBit_two_pow]
   by_cases h:x=j
   ·simp[h]
   ·have h':¬ j=x:=fun e=>h e.symm
    simp[h,h']
  rw[this,Bool.or_assoc]
theorem mJ{l:List Nat}{n j:Nat}(h:aAG l=2 ^ n-1)(hj:j<n):j∈l:=by
 have e:=aAH l 0 j
 have h':l.foldl (fun a x=>a ||| (1 <<< x)) 0=2 ^ n-1:=h
 rw[h',Nat.testBit_two_pow_sub_one] at e
 simp[hj] at e
 exact e
def orb(M:Nat):Nat→Nat→Nat
 |0,i=>i
 |n+1,i=>orb M n ((i*5+1) % M)
theorem lR(M a:Nat):∀b i,orb M (b+a) i=orb M a (orb M b i)
 |0,i=>by rw[Nat.zero_add];rfl
 |b+1,i=>by
  rw[show b+1+a=(b+a)+1 by lia]
  show orb M (b+a) _=orb M a (orb M b _)
  exact lR M a b _
def orbL(M:Nat):Nat→Nat→List Nat
 |0,_=>[]
 |n+1,i=>i::orbL M n ((i*5+1) % M)
theorem mV{M j:Nat}:∀ {n i},j∈orbL M n i→∃k,k<n∧orb M k i=j
 |0,_,h=>by cases h
 |n+1,i,h=>by
  rcases List.mem_cons.mp h with z|z
  ·exact⟨0,by lia,z.symm⟩
  ·obtain⟨k,a,b⟩:=mV z
   exact⟨k+1,by lia,b⟩
structure Rnd(M:Nat):Prop where
 all:aAG (orbL M M 0)=2 ^ M-1
 back:orb M M 0=0
theorem rnd8:Rnd 8:=⟨by decide +kernel,by decide +kernel⟩
theorem aCr:Rnd 32:=⟨by decide +kernel,by decide +kernel⟩
theorem aAI:Rnd 128:=⟨by decide +kernel,by decide +kernel⟩
theorem aAJ:Rnd 512:=⟨by decide +kernel,by decide +kernel⟩
theorem Rnd.cover{M:Nat}(R:Rnd M){i j:Nat}(hi:i<M)(hj:j<M):∃n,n<M∧orb M n i=j:=by
 obtain⟨a,ha,ea⟩:=mV (mJ R.all hi)
 obtain⟨b,hb,eb⟩:=mV (mJ R.all hj)
 by_cases h:a≤b
 ·refine⟨b-a,by lia,?_⟩
  rw[← ea,← lR,show a+(b-a)=b by lia,eb]
 ·refine⟨M+b-a,by lia,?_⟩
  rw[← ea,← lR,show a+(M+b-a)=M+b by lia,lR,R.back,eb]
def dQ(mask:Nat):Nat→Nat×Nat→Nat×Nat
 |0,q=>q
 |n+1,q=>dQ mask n (SetTable.leap mask q.1 q.2)
theorem qJ(m a:Nat):∀b q,dQ m (b+a) q=dQ m a (dQ m b q)
 |0,q=>by rw[Nat.zero_add];rfl
 |b+1,q=>by
  rw[show b+1+a=(b+a)+1 by lia]
  exact qJ m a b _
theorem sW{m:Nat}:∀ {n:Nat} {q:Nat×Nat},q.1<m+1→(dQ m n q).1<m+1
 |0,_,h=>h
 |n+1,q,h=>sW (n:=n) (Nat.mod_lt _ (Nat.succ_pos _))
theorem wJ{m:Nat}:∀ {n:Nat} {q:Nat×Nat},(dQ m n q).2=q.2 / 32 ^ n
 |0,_=>by simp[dQ]
 |n+1,q=>by
  show (dQ m n _).2=_
  rw[wJ]
  show q.2 / 32 / 32 ^ n=_
  rw[Nat.div_div_eq_div_mul,Nat.pow_succ,Nat.mul_comm]
theorem qK{m:Nat}:∀ {n i:Nat},dQ m n (i,0)=(orb (m+1) n i,0)
 |0,_=>rfl
 |n+1,i=>by
  show dQ m n (SetTable.leap m i 0)=_
  unfold SetTable.leap
  simp only[Nat.zero_div,Nat.add_zero]
  exact qK
theorem mK{m:Nat}(R:Rnd (m+1)){i p j:Nat}(hi:i<m+1)(hp:p<2 ^ 64)(hj:j<m+1):∃n,n<m+14∧(dQ m n (i,p)).1=j:=by
 have h1:=sW (m:=m) (n:=13) (q:=(i,p)) hi
 have h2:(dQ m 13 (i,p)).2=0:=by
  rw[wJ]
  exact Nat.div_eq_of_lt (Nat.lt_of_lt_of_le hp (by decide))
 obtain⟨n,hn,e⟩:=R.cover h1 hj
 refine⟨13+n,by lia,?_⟩
 rw[qJ]
 have:dQ m 13 (i,p)=((dQ m 13 (i,p)).1,0):=Prod.ext rfl h2
 rw[this,qK]
 exact e
theorem wK(h:Int):SetTable.bits h<2 ^ 64:=by
 unfold SetTable.bits
 have a:=Int.emod_nonneg h (show (2 ^ 64:Int)≠0 by decide)
 have b:=Int.emod_lt_of_pos h (show (0:Int)<2 ^ 64 by decide)
 lia
theorem aEL{M:Nat}{l:List Nat}(h:l.length<M):∃j,j<M∧j∉l:=by
 have key:∀ (a b:List Nat),a.Nodup→(∀x∈a,x∈b)→a.length≤b.length:=by
  intro a
  induction a with
  |nil=>intro b _ _;exact Nat.zero_le _
  |cons x xs ih=>
   intro b hn hs
   obtain⟨h1,h2⟩:=List.nodup_cons.mp hn
   have hx:x∈b:=hs x List.mem_cons_self
   have:=ih (b.erase x) h2 fun y hy=>(List.mem_erase_of_ne (fun (e:y=x)=>h1 (e ▸ hy))).mpr (hs y (List.mem_cons_of_mem _ hy))
   rw[List.length_erase_of_mem hx] at this
   have:0<b.length:=List.length_pos_of_mem hx
   rw[List.length_cons]
   lia
 apply Classical.byContradiction
 intro hno
 have:=key (List.range M) l List.nodup_range fun x hx=>Classical.byContradiction fun hx'=>hno ⟨x,List.mem_range.mp hx,hx'⟩
 rw[List.length_range] at this
 lia
def sX(mask i p:Nat):SetTable.Probe:={ j:=i,more:=SetTable.runEnd mask i-i,i:=i,perturb:=p,dummy:=none }
theorem aD1(mask i:Nat):SetTable.runEnd mask i-i≤9:=by unfold SetTable.runEnd;split <;> lia
theorem pE{t:SetTable}(hd:t.dummies=#[])(j:Nat):t.slot j=.empty∨∃i,t.slot j=.live i∧t.place[i]?=some j:=by
 unfold SetTable.slot
 dsimp only
 split
 ·rename_i h
  exact .inr ⟨_,rfl,by simpa using h⟩
 ·left
  rw[hd]
  rfl
theorem yJ{t:SetTable}(hd:t.dummies=#[]){j:Nat}(h:j∉t.place.toList):t.slot j=.empty:=by
 rcases pE hd j with e|⟨i,_,e2⟩
 ·exact e
 ·exact absurd (by rw[← Array.getElem?_toList] at e2;exact List.mem_of_getElem? e2) h
section
variable {t:SetTable} {hashAt:Nat→Int} {h:Int}
theorem aAK(hd:t.dummies=#[])(hh:∀i,i<t.place.size→hashAt i≠h)(i p:Nat):∀ (r:Nat) (j fuel:Nat),
  (∃j',SetTable.probe.go t hashAt h (fuel+r+1) { j:=j,more:=r,i:=i,perturb:=p,dummy:=none }=some (.empty j' none))∨
  SetTable.probe.go t hashAt h (fuel+r+1) { j:=j,more:=r,i:=i,perturb:=p,dummy:=none }=SetTable.probe.go t hashAt h fuel (sX t.mask (SetTable.leap t.mask i p).1 (SetTable.leap t.mask i p).2)
 |0,j,fuel=>by
  rcases pE hd j with e|⟨k,e,e2⟩
  ·exact .inl ⟨j,by unfold SetTable.probe.go;rw[e]⟩
  ·right
   have hk:k<t.place.size:=(Array.getElem?_eq_some_iff.mp e2).1
   conv=>lhs;unfold SetTable.probe.go
   rw[e]
   simp only[beq_iff_eq,hh k hk,if_false]
   rfl
 |r+1,j,fuel=>by
  rcases pE hd j with e|⟨k,e,e2⟩
  ·exact .inl ⟨j,by rw[show fuel+(r+1)+1=(fuel+r+1)+1 by lia];unfold SetTable.probe.go;rw[e]⟩
  ·have hk:k<t.place.size:=(Array.getElem?_eq_some_iff.mp e2).1
   have st:SetTable.probe.go t hashAt h (fuel+(r+1)+1) { j:=j,more:=r+1,i:=i,perturb:=p,dummy:=none }=SetTable.probe.go t hashAt h (fuel+r+1) { j:=j+1,more:=r,i:=i,perturb:=p,dummy:=none }:=by
    rw[show fuel+(r+1)+1=(fuel+r+1)+1 by lia]
    conv=>lhs;unfold SetTable.probe.go
    rw[e]
    simp only[beq_iff_eq,hh k hk,if_false]
    rfl
   rw[st]
   exact aAK hd hh i p r (j+1) fuel
theorem wL(hd:t.dummies=#[])(hh:∀i,i<t.place.size→hashAt i≠h):∀ (m:Nat) (i p fuel:Nat),10*(m+1)≤fuel→t.slot (dQ t.mask m (i,p)).1=.empty→
  ∃j',SetTable.probe.go t hashAt h fuel (sX t.mask i p)=some (.empty j' none)
 |0,i,p,fuel,hf,e=>by
  obtain⟨f,rfl⟩:∃f,fuel=f+1:=⟨fuel-1,by lia⟩
  refine⟨i,?_⟩
  have e':t.slot i=.empty:=e
  unfold SetTable.probe.go sX
  dsimp only
  rw[e']
 |m+1,i,p,fuel,hf,e=>by
  have hr:=aD1 t.mask i
  obtain⟨f,hf'⟩:∃f,fuel=f+(SetTable.runEnd t.mask i-i)+1:=⟨fuel-(SetTable.runEnd t.mask i-i)-1,by lia⟩
  rcases aAK (hashAt:=hashAt) (h:=h) hd hh i p (SetTable.runEnd t.mask i-i) i f with z|z
  ·rw[hf'];exact z
  ·rw[hf']
   show ∃j',SetTable.probe.go t hashAt h _ { j:=i,more:=_,i:=i,perturb:=p,dummy:=none }=_
   rw[z]
   exact wL hd hh m _ _ f (by lia) e
theorem yK(R:Rnd (t.mask+1))(hd:t.dummies=#[])(hs:t.place.size≤t.mask)(hh:∀i,i<t.place.size→hashAt i≠h):∃j,t.probe hashAt h (t.probeStart h)=some (.empty j none):=by
 obtain⟨j,hj,hn⟩:=aEL (M:=t.mask+1) (l:=t.place.toList) (by simpa using Nat.lt_succ_of_le hs)
 obtain⟨m,hm,e⟩:=mK R (Nat.mod_lt (SetTable.bits h) (Nat.succ_pos t.mask)) (wK h) hj
 refine wL hd hh m _ _ _ ?_ (by rw[e];exact yJ hd hn)
 unfold SetTable.turns
 lia
end
theorem jJ{α β:Type}{f:α→Option β}:∀ {l:List α},(∀q∈l,(f q).isSome=true)→(l.filterMap f).length=l.length
 |[],_=>rfl
 |q::l,h=>by
  have hq:=h q List.mem_cons_self
  cases e:f q with
  |none=>rw[e] at hq;cases hq
  |some b=>rw[List.filterMap_cons_some e,List.length_cons,List.length_cons,jJ fun x hx=>h x (List.mem_cons_of_mem _ hx)]
theorem qL{mask:Nat}{owner:Array (Option Nat)}:∀ (m fuel i p:Nat),m<fuel→owner.getD (dQ mask m (i,p)).1 (some 0)=none→∃j,SetTable.layClean.free mask owner fuel i p=some j∧owner.getD j (some 0)=none
 |m,0,_,_,h,_=>by lia
 |m,fuel+1,i,p,h,e=>by
  unfold SetTable.layClean.free
  cases hf:(List.range (SetTable.runEnd mask i+1-i)).find? fun k=>(owner.getD (i+k) (some 0)).isNone with
  |some k=>
   refine⟨i+k,rfl,?_⟩
   have:=List.find?_some hf
   simpa using this
  |none=>
   cases m with
   |zero=>
    have h0:(0:Nat)∈List.range (SetTable.runEnd mask i+1-i):=List.mem_range.mpr (by unfold SetTable.runEnd;split <;> lia)
    have:=List.find?_eq_none.mp hf 0 h0
    have e':owner.getD i (some 0)=none:=e
    rw[Nat.add_zero,e'] at this
    exact absurd rfl this
   |succ m=>
    exact qL m fuel _ _ (by lia) e
structure Laid(M:Nat)(owner:Array (Option Nat))(k:Nat):Prop where
 size:owner.size=M
 cnt:owner.toList.countP Option.isSome=k
 lt:∀x,some x∈owner.toList→x<k
theorem yL{l:List (Option Nat)}{j:Nat}{x:Nat}(hj:l[j]?=some none):(l.set j (some x)).countP Option.isSome=l.countP Option.isSome+1:=by
 induction l generalizing j with
 |nil=>cases hj
 |cons a l ih=>
  cases j with
  |zero=>
   obtain rfl:a=none:=by simpa using hj
   simp
  |succ j=>
   rw[List.set_cons_succ,List.countP_cons,List.countP_cons,ih (by simpa using hj)]
   lia
theorem Laid.one{mask:Nat}{owner:Array (Option Nat)}{k:Nat}(L:Laid (mask+1) owner k)(R:Rnd (mask+1))(hk:k<mask+1)(h:Int):
  ∃j,SetTable.layClean.free mask owner (SetTable.turns mask) (SetTable.bits h % (mask+1)) (SetTable.bits h)=some j∧Laid (mask+1) (owner.setIfInBounds j (some k)) (k+1):=by
 have hno:∃j,j<mask+1∧owner.toList[j]?=some none:=by
  apply Classical.byContradiction
  intro hno
  have hall:∀x∈owner.toList,x.isSome=true:=by
   intro x hx
   obtain⟨j,hj,e⟩:=List.mem_iff_getElem.mp hx
   cases x with
   |some _=>rfl
   |none=>
    refine absurd ⟨j,?_,?_⟩ hno
    ·rw[← L.size];simpa using hj
    ·rw[List.getElem?_eq_getElem hj,e]
  have:=List.countP_eq_length.mpr hall
  rw[L.cnt,Array.length_toList,L.size] at this
  lia
 obtain⟨j0,hj0,e0⟩:=hno
 obtain⟨m,hm,em⟩:=mK R (Nat.mod_lt (SetTable.bits h) (Nat.succ_pos mask)) (wK h) hj0
 obtain⟨j,ej,en⟩:=qL (mask:=mask) (owner:=owner) m (SetTable.turns mask) (SetTable.bits h % (mask+1)) (SetTable.bits h) (by unfold SetTable.turns;lia)
  (by rw[em,Array.getD_eq_getD_getElem?,← Array.getElem?_toList,e0];rfl)
 refine⟨j,ej,?_⟩
 have hjn:owner.toList[j]?=some none:=by
  rw[Array.getD_eq_getD_getElem?,← Array.getElem?_toList] at en
  cases hq:owner.toList[j]? with
  |none=>rw[hq] at en;cases en
  |some v=>rw[hq] at en;rw[show v=none from en]
 have hset:(owner.setIfInBounds j (some k)).toList=owner.toList.set j (some k):=by simp
 refine⟨by simp[L.size],by rw[hset,yL hjn,L.cnt],fun x hx=>?_⟩
 rw[hset] at hx
 rcases List.mem_or_eq_of_mem_set hx with z|z
 ·exact Nat.lt_succ_of_lt (L.lt x z)
 ·cases z;exact Nat.lt_succ_self _
theorem wM{mask:Nat}(R:Rnd (mask+1)):∀ (l:List Int) (owner:Array (Option Nat)) (k:Nat),Laid (mask+1) owner k→k+l.length≤mask→
  ∃owner',l.foldl (fun acc h=>do
   let (owner,k) ← acc
   let j ← SetTable.layClean.free mask owner (SetTable.turns mask) (SetTable.bits h % (mask+1)) (SetTable.bits h)
   pure (owner.setIfInBounds j (some k),k+1)) (some (owner,k))=some (owner',k+l.length)∧Laid (mask+1) owner' (k+l.length)
 |[],owner,k,L,_=>⟨owner,rfl,L⟩
 |h::l,owner,k,L,hl=>by
  rw[List.length_cons] at hl
  obtain⟨j,ej,L'⟩:=L.one R (by lia) h
  obtain⟨o',e,L2⟩:=wM R l _ _ L' (by lia)
  refine⟨o',?_,by rw[List.length_cons,show k+(l.length+1)=k+1+l.length by lia];exact L2⟩
  rw[List.foldl_cons]
  have:(do
   let (owner,k) ← some (owner,k)
   let j ← SetTable.layClean.free mask owner (SetTable.turns mask) (SetTable.bits h % (mask+1)) (SetTable.bits h)
   pure (owner.setIfInBounds j (some k),k+1):Option (Array (Option Nat)×Nat))=some (owner.setIfInBounds j (some k),k+1):=by
   show (SetTable.layClean.free mask owner (SetTable.turns mask) (SetTable.bits h % (mask+1)) (SetTable.bits h)).bind _=_
   rw[ej];rfl
  rw[this,e,List.length_cons,show k+(l.length+1)=k+1+l.length by lia]
theorem vN{mask:Nat}(R:Rnd (mask+1))(hs:Array Int)(h:hs.size≤mask):∃owner,SetTable.layClean mask hs=some owner∧Laid (mask+1) owner hs.size:=by
 have L0:Laid (mask+1) (Array.replicate (mask+1) none) 0:=⟨by simp,by simp[List.countP_replicate],fun x hx=>by simp at hx⟩
 obtain⟨o,e,L⟩:=wM R hs.toList _ 0 L0 (by simpa using h)
 refine⟨o,?_,by simpa using L⟩
 unfold SetTable.layClean
 rw[← Array.foldl_toList]
 have e':=congrArg (Option.map (·.1)) e
 exact e'
theorem yM{M n:Nat}{owner:Array (Option Nat)}(L:Laid M owner n):
  ((List.range M).filterMap fun j=>(owner.getD j none).map (j,·)).length=n∧∀q∈(List.range M).filterMap (fun j=>(owner.getD j none).map (j,·)),q.2<n:=by
 constructor
 ·rw[← L.cnt]
  have e:owner.toList=(List.range M).map fun j=>owner.getD j none:=by
   apply List.ext_getElem
   ·simp[L.size]
   ·intro i h1 h2
    simp only[List.getElem_map,List.getElem_range,Array.getElem_toList]
    rw[Array.getD_eq_getD_getElem?,Array.getElem?_eq_getElem (by simpa using h1)]
    rfl
  conv=>rhs;rw[e]
  rw[List.countP_map]
  generalize List.range M=l
  induction l with
  |nil=>rfl
  |cons a l ih=>
   rw[List.countP_cons,← ih]
   cases hq:owner.getD a none with
   |none=>rw[List.filterMap_cons_none (by rw[hq];rfl),show (Option.isSome ∘ fun j=>owner.getD j none) a=false by show (owner.getD a none).isSome=false;rw[hq];rfl];simp
   |some x=>rw[List.filterMap_cons_some (b:=(a,x)) (by rw[hq];rfl),show (Option.isSome ∘ fun j=>owner.getD j none) a=true by show (owner.getD a none).isSome=true;rw[hq];rfl];simp
 ·intro q hq
  obtain⟨j,_,e⟩:=List.mem_filterMap.mp hq
  cases hx:owner.getD j none with
  |none=>rw[hx] at e;cases e
  |some x=>
   rw[hx] at e
   cases e
   refine L.lt x ?_
   rw[Array.getD_eq_getD_getElem?,← Array.getElem?_toList] at hx
   cases hy:owner.toList[j]? with
   |none=>rw[hy] at hx;cases hx
   |some v=>rw[hy] at hx;obtain rfl:v=some x:=hx;exact List.mem_of_getElem? hy
structure nX(hs:Array Int)(t:SetTable):Prop where
 dm:t.dummies=#[]
 sz:t.place.size=hs.size
 ms:(t.mask=7∧hs.size≤4)∨(t.mask=31∧hs.size≤18)∨(t.mask=127∧hs.size≤76)∨(t.mask=511∧hs.size≤306)
theorem nX.rnd{hs:Array Int}{t:SetTable}(T:nX hs t):Rnd (t.mask+1):=by
 rcases T.ms with ⟨e,_⟩|⟨e,_⟩|⟨e,_⟩|⟨e,_⟩ <;> rw[e]
 ·exact rnd8
 ·exact aCr
 ·exact aAI
 ·exact aAJ
theorem kJ{α:Type}(xs:Array α)(p:Nat)(x:α):(SetTable.insertAt xs p x).size=xs.size+1:=by
 unfold SetTable.insertAt
 simp
 lia
theorem kW{α:Type}{xs:Array α}{p:Nat}{x y:α}(h:y∈(SetTable.insertAt xs p x).toList):y=x∨y∈xs.toList:=by
 unfold SetTable.insertAt at h
 rw[Array.toList_append,Array.toList_push,Array.toList_extract,Array.toList_extract] at h
 rcases List.mem_append.mp h with z|z
 ·rcases List.mem_append.mp z with z|z
  ·right
   rw[List.extract_eq_drop_take] at z
   exact List.mem_of_mem_drop (List.mem_of_mem_take z)
  ·left;simpa using z
 ·right
  rw[List.extract_eq_drop_take] at z
  exact List.mem_of_mem_drop (List.mem_of_mem_take z)
theorem yN{hs:Array Int}{t:SetTable}{h:Int}(T:nX hs t)(hn:h∉hs.toList)(hl:hs.size<300):∃hs' t',eF hs t h=some (hs',t')∧nX hs' t'∧hs'.size=hs.size+1∧∀x∈hs'.toList,x=h∨x∈hs.toList:=by
 have hle:t.place.size≤t.mask:=by rw[T.sz];rcases T.ms with ⟨e,z⟩|⟨e,z⟩|⟨e,z⟩|⟨e,z⟩ <;> lia
 have hh:∀i,i<t.place.size→hAt hs i≠h:=by
  intro i hi e
  rw[T.sz] at hi
  unfold hAt at e
  rw[Array.getElem?_eq_getElem hi] at e
  exact hn (by rw[← e];simp)
 obtain⟨j,hp⟩:=yK (hashAt:=hAt hs) (h:=h) T.rnd T.dm hle hh
 have hg:t.gaveWay=false:=by
  unfold SetTable.gaveWay
  rcases T.ms with ⟨e,_⟩|⟨e,_⟩|⟨e,_⟩|⟨e,_⟩ <;> rw[e] <;> rfl
 have q1:(t.put j).1.place=SetTable.insertAt t.place (SetTable.below t.place j) j:=rfl
 have q2:(t.put j).1.dummies=#[]:=by
  show (if SetTable.has t.dummies j=true then _ else t.dummies)=_
  rw[T.dm]
  rfl
 have q3:(t.put j).1.mask=t.mask:=rfl
 have s1:(SetTable.insertAt hs (t.put j).2 h).size=hs.size+1:=kJ _ _ _
 have s2:(t.put j).1.place.size=hs.size+1:=by rw[q1,kJ,T.sz]
 have fl:(t.put j).1.fill=hs.size+1:=by unfold SetTable.fill;rw[s2,q2];rfl
 have fit:(t.put j).1.fits (SetTable.insertAt hs (t.put j).2 h).size=true:=by
  unfold SetTable.fits
  rw[s1,s2,fl,q3]
  simp
  rcases T.ms with ⟨e,z⟩|⟨e,z⟩|⟨e,z⟩|⟨e,z⟩ <;> lia
 unfold eF
 rw[hg,if_neg Bool.false_ne_true,hp]
 dsimp only
 rw[if_pos (by rw[fit,s1];simp;lia)]
 by_cases hf:(t.put j).1.tooFull=true
 ·rw[if_pos hf]
  have hf':=hf
  unfold SetTable.tooFull at hf'
  rw[fl,q3] at hf'
  have hf2:(hs.size+1)*5≥t.mask*3:=by simpa using hf'
  have gr:SetTable.grown (hs.size+1)=(hs.size+1)*4:=by unfold SetTable.grown;rw[if_neg (by lia)]
  obtain⟨m2,em2,hm2,R2⟩:∃m2,SetTable.sizeAbove (SetTable.grown (hs.size+1))=m2+1∧((m2=31∧hs.size+1≤18)∨(m2=127∧hs.size+1≤76)∨(m2=511∧hs.size+1≤306))∧Rnd (m2+1):=by
   rw[gr]
   rcases T.ms with ⟨e,z⟩|⟨e,z⟩|⟨e,z⟩|⟨e,z⟩
   ·have:hs.size=4:=by lia
    exact⟨31,by rw[this];rfl,.inl ⟨rfl,by lia⟩,aCr⟩
   ·have:hs.size=18:=by lia
    exact⟨127,by rw[this];rfl,.inr (.inl ⟨rfl,by lia⟩),aAI⟩
   ·have:hs.size=76:=by lia
    exact⟨511,by rw[this];rfl,.inr (.inr ⟨rfl,by lia⟩),aAJ⟩
   ·lia
  have hm3:(SetTable.insertAt hs (t.put j).2 h).size≤m2:=by rw[s1];rcases hm2 with ⟨e,z⟩|⟨e,z⟩|⟨e,z⟩ <;> lia
  obtain⟨owner,eo,L⟩:=vN R2 (SetTable.insertAt hs (t.put j).2 h) hm3
  obtain⟨lv1,lv2⟩:=yM L
  rw[s1] at lv1 lv2
  generalize hlive:(List.range (m2+1)).filterMap (fun j=>(owner.getD j none).map (j,·))=live at lv1 lv2
  have er:(t.put j).1.relaid (SetTable.insertAt hs (t.put j).2 h) (SetTable.grown (hs.size+1))=some ({ mask:=m2,place:=(live.map (·.1)).toArray,dummies:=#[],finger:=(t.put j).1.finger,led:=(t.put j).1.led,moves:=(t.put j).1.movedTo m2,plain:=(t.put j).1.plain },(live.map (·.2)).toArray):=by
   unfold SetTable.relaid SetTable.laid
   rw[em2]
   simp only[Nat.add_sub_cancel]
   rw[eo]
   show some _=some _
   rw[← hlive]
  rw[er]
  dsimp only
  have hsz2:((live.map (·.2)).toArray.filterMap ((SetTable.insertAt hs (t.put j).2 h)[·]?)).size=hs.size+1:=by
   rw[← Array.length_toList,Array.toList_filterMap]
   show ((live.map (·.2)).filterMap _).length=_
   rw[← lv1,List.filterMap_map]
   refine jJ fun q hq=>?_
   show ((SetTable.insertAt hs (t.put j).2 h)[q.2]?).isSome=true
   rw[Array.getElem?_eq_getElem (by rw[s1];exact lv2 q hq)]
   rfl
  have emf:∀x,({ mask:=m2,place:=(live.map (·.1)).toArray,dummies:=#[],finger:=(t.put j).1.finger,led:=(t.put j).1.led,moves:=(t.put j).1.movedTo m2,plain:=(t.put j).1.plain }:SetTable).fits x=(decide (hs.size+1=x)&&decide (hs.size+1≤m2)):=by
   intro x
   unfold SetTable.fits SetTable.fill
   simp[lv1]
   rw[Bool.eq_iff_iff];simp
  rw[if_pos (by
   rw[hsz2,s1,emf,em2]
   have:hs.size+1≤m2:=by rw[← s1];exact hm3
   simp[this]
   rcases hm2 with ⟨e,z⟩|⟨e,z⟩|⟨e,z⟩ <;> lia)]
  refine⟨_,_,rfl,⟨rfl,?_,?_⟩,hsz2,fun x hx=>?_⟩
  ·rw[hsz2];simp[lv1]
  ·rw[hsz2];exact .inr hm2
  ·rw[Array.toList_filterMap] at hx
   obtain⟨k,_,ek⟩:=List.mem_filterMap.mp hx
   refine kW (p:=(t.put j).2) ?_
   rw[← Array.getElem?_toList] at ek
   exact List.mem_of_getElem? ek
 ·rw[if_neg hf]
  refine⟨_,_,rfl,⟨q2,by rw[s2,s1],?_⟩,s1,fun x hx=>kW hx⟩
  have hf':¬ (hs.size+1)*5≥t.mask*3:=by
   intro z
   refine hf ?_
   unfold SetTable.tooFull
   rw[fl,q3]
   simpa using z
  rw[s1,q3]
  rcases T.ms with ⟨e,z⟩|⟨e,z⟩|⟨e,z⟩|⟨e,z⟩ <;> lia
theorem mL:∀ (l:List Int) (hs:Array Int) (t:SetTable),nX hs t→(∀x∈l,x∉hs.toList)→l.Nodup→hs.size+l.length≤300→∃hs' t',l.foldlM (fun q h=>eF q.1 q.2 h) (hs,t)=some (hs',t')∧hs'.size=hs.size+l.length
 |[],hs,t,_,_,_,_=>⟨hs,t,rfl,rfl⟩
 |h::l,hs,t,T,hn,nd,hl=>by
  rw[List.length_cons] at hl
  obtain⟨n1,n2⟩:=List.nodup_cons.mp nd
  obtain⟨hs1,t1,e1,T1,z1,m1⟩:=yN T (hn h List.mem_cons_self) (by lia)
  obtain⟨hs2,t2,e2,z2⟩:=mL l hs1 t1 T1 (fun x hx hy=>by
   rcases m1 x hy with e|e
   ·exact n1 (e ▸ hx)
   ·exact hn x (List.mem_cons_of_mem _ hx) e) n2 (by lia)
  refine⟨hs2,t2,?_,by rw[z2,z1,List.length_cons];lia⟩
  rw[List.foldlM_cons]
  show (eF hs t h).bind _=_
  rw[e1]
  exact e2
theorem aAL(led:Bool){l:List Int}(nd:l.Nodup)(hl:l.length≤300):∃hs t,nW led l=some (hs,t)∧hs.size=l.length:=by
 obtain⟨hs,t,e,z⟩:=mL l #[] (SetTable.fresh 0 0 led) ⟨rfl,rfl,.inl ⟨rfl,by decide⟩⟩ (fun x _ h=>by simp at h) nd (by simpa using hl)
 exact⟨hs,t,e,by simpa using z⟩
end L2
namespace L2
open PySem PySem.Spec PyProof.Rows PySem.W
def rF:List Nat→Nat→Bool
 |[],_=>true
 |x::xs,acc=>bif Nat.testBit acc x then false else rF xs (acc ||| (1 <<< x))
theorem sY:∀ (l:List Nat) (acc:Nat),rF l acc=true→l.Nodup∧∀x∈l,acc.testBit x=false
 |[],_,_=>⟨List.nodup_nil,fun x h=>(nomatch h)⟩
 |x::xs,acc,h=>by
  unfold rF at h
  cases hb:acc.testBit x with
  |true=>rw[hb] at h;cases h
  |false=>
   rw[hb] at h
   obtain⟨nd,hx⟩:=sY xs _ h
   have hor:∀y∈xs,acc.testBit y=false∧y≠x:=by
    intro y hy
    have:=hx y hy
    rw[Nat.testBit_or,Nat.one_shiftLeft,Nat.testBit_two_pow] at this
    rw[Bool.or_eq_false_iff] at this
    exact⟨this.1,fun e=>by have:=this.2;simp[e] at this⟩
   refine⟨List.nodup_cons.mpr ⟨fun hm=>(hor x hm).2 rfl,nd⟩,fun y hy=>?_⟩
   rcases List.mem_cons.mp hy with z|z
   ·rw[z];exact hb
   ·exact(hor y z).1
def mW:List (Int×Int):=(List.range 32).flatMap fun a=>(List.range 32).map fun b=>(Int.ofNat a,Int.ofNat b)
def aCs(h:Int):Nat:=(h % 6554).toNat
theorem aAM(P:Program)(w:World):rF (mW.map fun y=>aCs (dY P w y)) 0=true:=by kernel_rfl
theorem wN{y:Int×Int}(h1:0≤y.1∧y.1<32)(h2:0≤y.2∧y.2<32):y∈mW:=by
 unfold mW
 refine List.mem_flatMap.mpr ⟨y.1.toNat,List.mem_range.mpr (by lia),List.mem_map.mpr ⟨y.2.toNat,List.mem_range.mpr (by lia),Prod.ext ?_ ?_⟩⟩
 ·show ((y.1.toNat:Nat):Int)=y.1;lia
 ·show ((y.2.toNat:Nat):Int)=y.2;lia
theorem kK{α β:Type}{f:α→β}:∀ {l:List α},(l.map f).Nodup→∀x∈l,∀y∈l,f x=f y→x=y
 |[],_,_,h,_,_,_=>by cases h
 |a::l,h,x,hx,y,hy,e=>by
  rw[List.map_cons] at h
  obtain⟨h1,h2⟩:=List.nodup_cons.mp h
  rcases List.mem_cons.mp hx with z|z <;> rcases List.mem_cons.mp hy with z'|z'
  ·rw[z,z']
  ·exact absurd (List.mem_map.mpr ⟨y,z',by rw[← e,z]⟩) h1
  ·exact absurd (List.mem_map.mpr ⟨x,z,by rw[e,z']⟩) h1
  ·exact kK h2 x z y z' e
theorem sZ{P:Program}{w:World}{x y:Int×Int}(hx:(0≤x.1∧x.1<32)∧(0≤x.2∧x.2<32))(hy:(0≤y.1∧y.1<32)∧(0≤y.2∧y.2<32))(e:dY P w x=dY P w y):x=y:=
 kK (sY _ _ (aAM P w)).1 x (wN hx.1 hx.2) y (wN hy.1 hy.2) (congrArg aCs e)
theorem kY{α β:Type}{f:α→β}:∀ {l:List α},l.Nodup→(∀x∈l,∀y∈l,f x=f y→x=y)→(l.map f).Nodup
 |[],_,_=>List.nodup_nil
 |a::l,h,hf=>by
  obtain⟨h1,h2⟩:=List.nodup_cons.mp h
  rw[List.map_cons]
  refine List.nodup_cons.mpr ⟨fun z=>?_,kY h2 fun x hx y hy=>hf x (List.mem_cons_of_mem _ hx) y (List.mem_cons_of_mem _ hy)⟩
  obtain⟨y,hy,e⟩:=List.mem_map.mp z
  have:=hf y (List.mem_cons_of_mem _ hy) a List.mem_cons_self e
  exact h1 (this ▸ hy)
theorem vO{P:Program}{w:World}(led:Bool){ys:List (Int×Int)}(nd:ys.Nodup)(hr:∀y∈ys,(0≤y.1∧y.1<32)∧(0≤y.2∧y.2<32))(hl:ys.length≤300):
  ∃hs t,nW led (ys.map (dY P w))=some (hs,t)∧hs.size=ys.length:=by
 obtain⟨hs,t,e,z⟩:=aAL led (kY nd fun x hx y hy e=>sZ (P:=P) (w:=w) (hr x hx) (hr y hy) e) (by rw[List.length_map];exact hl)
 exact⟨hs,t,e,by rw[z,List.length_map]⟩
end L2
namespace L2
open PySem PySem.Spec PyProof.Rows PySem.W
theorem pF:∀ {as:List Addr} {its:List Value},Vals (as.map V.ref) its→its=as.map Value.ref
 |[],_,r=>by cases r;rfl
 |a::as,_,r=>by
  cases r with
  |cons r rr=>
   obtain rfl:=(show _=Value.ref a from r)
   rw[pF rr];rfl
def setO(D:Addr)(n:Nat):HO:=.ext fun h=>∃hs t,fN h D hs t∧hs.size=n
section
variable {X:Cx}
def aEM(K:PySem.W.Frag):List V→Hp→VK→Prop:=fun xs H Q=>∃ (l:Addr) (as:List Addr) (ys:List (Int×Int)),xs=[.ref l]∧SqL K H l (as.map V.ref)∧as.length=ys.length∧
 (∀i,i<ys.length→aAE K H (as.getD i 0) (ys.getD i (0,0)))∧ys.Nodup∧(∀y∈ys,(0≤y.1∧y.1<32)∧(0≤y.2∧y.2<32))∧ys.length≤300∧∀D,H D=none→Q (.ref D) (upd H D (setO D ys.length))
theorem aAN(hc:X.calm=true)(hu:X.A.units+8<cLine):cU X (.type "set") (aEM X.K):=by
 intro pins s σ H xs us Q I r h
 obtain⟨l,as,ys,rfl,hl,hlen,hp,nd,rg,h3,q⟩:=h
 obtain⟨u1,rfl,r1⟩:=r.one
 obtain rfl:u1=Value.ref l:=r1
 obtain⟨its,rv,pl,hz⟩:=I.list hl
 have e:=pF rv
 subst e
 have hpi:fZ s.heap (as.map Value.ref) ys:=⟨by rw[List.length_map,hlen],fun i v hv=>by
  rw[List.getElem?_map] at hv
  cases ea:as[i]? with
  |none=>rw[ea] at hv;cases hv
  |some a=>
   rw[ea] at hv
   obtain rfl:Value.ref a=v:=Option.some.inj hv
   have hi:i<as.length:=(List.getElem?_eq_some_iff.mp ea).1
   obtain⟨o,n,t,u,e1,c,d⟩:=yH I (hp i (by lia))
   have eg:as.getD i 0=a:=by rw[List.getD_eq_getElem?_getD,ea];rfl
   rw[eg] at e1
   exact⟨a,o,n,t,u,rfl,e1,c,d⟩⟩
 have hrun:∀led,∃q:Array Int×SetTable,nW led (ys.map (dY X.prog X.w))=some q∧q.1.size=ys.length:=fun led=>
  let ⟨hs,t,e,z⟩:=vO (P:=X.prog) (w:=X.w) led nd rg h3;⟨(hs,t),e,z⟩
 refine aBM (I.ok.hd hc) hu pl.isList hpi (hsN:=fun led=>(hrun led).choose.1) (tN:=fun led=>(hrun led).choose.2) (fun led=>(hrun led).choose_spec.1) fun led h' tk S' k=>?_
 refine⟨.ref s.heap.objs.size,_,I.laidN (t':=tk) (o:=setO s.heap.objs.size ys.length) (fun b u e=>k b u (Heap.lt_size e) e) (Heap.get?_none_of_le (Nat.le_refl _)) ⟨⟨_,_,S',(hrun led).choose_spec.2⟩,?_,fun h1 h2 ⟨hs,t,⟨o,es,ep,q1,q2⟩,z⟩ kk=>⟨hs,t,⟨o,es,ep,kk o q1,q2⟩,z⟩⟩,rfl,q _ I.fresh⟩
 obtain⟨o,_,_,q1,_⟩:=S'
 exact⟨o,q1⟩
theorem vP:cU X (.builtin "len") (fun xs H Q=>∃D n,xs=[.ref D]∧H D=some (setO D n)∧n≤4096∧Q (.int n) H):=by
 intro pins s σ H xs us Q I r h
 obtain⟨D,n,rfl,e,hn,q⟩:=h
 obtain⟨u1,rfl,r1⟩:=r.one
 obtain rfl:u1=Value.ref D:=r1
 obtain⟨⟨hs,t,⟨o,es,ep,q1,q2,q3,q4,q5,q6⟩,z⟩,_⟩:=(show bU X.prog X.w H s.heap D (setO D n) from I.hok D _ e)
 have hsz:es.size=n:=by rw[← z,← q5,Array.size_map]
 exact call_len_set q1 ⟨q2,q3.1,q3.2⟩ q4 q6 (by rw[hsz];lia) ⟨.int n,H,I.tok _,⟨_,by rw[hsz]⟩,q⟩
theorem jB:cU X (.type "range") (fun xs H Q=>∃n,xs=[.int n]∧∀p,H p=none→Q (.ref p) (upd H p (.rng 0 n))):=by
 intro pins s σ H xs us Q I r h
 obtain⟨n,rfl,q⟩:=h
 obtain⟨u1,rfl,t,rfl⟩:=r.one
 refine call_range_1 ⟨.ref s.heap.objs.size,_,I.laid (o:=.rng 0 n) (fun b u e=>Heap.get?_push_of_some _ e) (Nat.le_refl _) ⟨_,_,_,Heap.get?_push_size _ rfl⟩,rfl,q _ I.fresh⟩
theorem jX(hc:X.calm=true):cU X (.type "list") (fun xs H Q=>∃ (p:Addr) (n:Nat),xs=[.ref p]∧H p=some (.rng 0 n)∧n≤1000∧∀l,H l=none→Q (.ref l) (upd H l (.lst ((List.range n).map fun (i:Nat)=>V.int i)))):=by
 intro pins s σ H xs us Q I r h
 obtain⟨p,n,rfl,e,hn,q⟩:=h
 obtain⟨u1,rfl,r1⟩:=r.one
 obtain rfl:u1=Value.ref p:=r1
 obtain⟨t,u,v,hp⟩:=(show bU X.prog X.w H s.heap p (.rng 0 n) from I.hok p _ e)
 refine call_list_range (n:=n) (I.ok.hd hc) (show IsRange s.heap p 0 n 1 t u v from hp) (small_one (by lia) (by lia) (by lia) (by lia)) (by rw[rangeSize_one];split <;> lia) (by lia) fun h' tk acc c k g it=>?_
 obtain⟨i1,i2⟩:=it
 refine⟨.ref s.heap.objs.size,_,I.laidN (t':=tk) (o:=.lst ((List.range n).map fun (i:Nat)=>V.int i)) (fun b u e=>k b u e) (Heap.get?_none_of_le (Nat.le_refl _)) ⟨?_,acc.toList,c,?_,by simpa using g⟩,rfl,q _ I.fresh⟩
 ·rw[List.length_map,List.length_range]
  exact Nat.le_trans hn (by decide)
 ·have go:∀ (m:Nat) (l:List Value),l.length=m→(∀ (j:Nat) v,l[j]?=some v→∃t,v=Value.int (0+(j:Int)*1) t)→Vals ((List.range m).map fun (i:Nat)=>V.int i) l:=by
   intro m
   induction m with
   |zero=>intro l hl _;cases l with
    |nil=>exact .nil
    |cons _ _=>cases hl
   |succ m ih=>
    intro l hl hv
    have hne:l≠[]:=by intro z;rw[z] at hl;cases hl
    have el:l=l.dropLast++[l.getLast hne]:=(List.dropLast_concat_getLast hne).symm
    rw[List.range_succ,List.map_append,el]
    have hdl:l.dropLast.length=m:=by rw[List.length_dropLast,hl];rfl
    refine Vals.append (ih _ hdl fun j v hj=>hv j v ?_) (.cons ?_ .nil)
    ·rw[el]
     have hj':j<l.dropLast.length:=(List.getElem?_eq_some_iff.mp hj).1
     rw[List.getElem?_append_left hj']
     exact hj
    ·obtain⟨t,ht⟩:=hv m (l.getLast hne) (by
      rw[List.getLast_eq_getElem,List.getElem?_eq_getElem (by lia:m<l.length)]
      simp[hl])
     exact⟨t,by rw[ht];simp⟩
  exact go n acc.toList (by simpa using i1) fun j v hj=>i2 j v (by simpa using hj)
end
end L2
namespace L2
open PySem PySem.Spec PyProof.Rows PySem.W
def eG(e:V→V→Bool):List V→List V→Bool
 |[],[]=>true
 |x::xs,y::ys=>e x y&&eG e xs ys
 |_,_=>false
theorem jC{e:V→V→Bool}:∀ {xs ys:List V},xs.length=ys.length→eG e xs ys=(List.range xs.length).all fun i=>e (xs.getD i .non) (ys.getD i .non)
 |[],[],_=>rfl
 |x::xs,y::ys,h=>by
  have h':xs.length=ys.length:=by simpa using h
  rw[eG,jC h',List.length_cons,List.range_succ_eq_map,List.all_cons,List.all_map]
  rfl
 |[],_::_,h=>by simp at h
 |_::_,[],h=>by simp at h
theorem qM{e:V→V→Bool}:∀ {xs ys:List V},xs.length≠ys.length→eG e xs ys=false
 |[],[],h=>absurd rfl h
 |x::xs,y::ys,h=>by
  have h':xs.length≠ys.length:=fun z=>h (by simp[z])
  rw[eG,qM h',Bool.and_false]
 |[],_::_,_=>rfl
 |_::_,[],_=>rfl
section
variable {X:Cx}
def ElEq(X:Cx)(H:Hp)(e:V→V→Bool)(x y:V):Prop:=∀ (pins:List (Addr×Obj)) (s:Shared) (σ:St) (A:Around) (u v:Value),Inv X pins σ H s→A.units+1<cLine→RelV x u→RelV y v→SeqAt.EqAt A s u v (e x y)
def rLEq(X:Cx)(neg:Bool)(e:V→V→Bool):R2:=fun x y H Q=>∃p q xs ys,x=.ref p∧y=.ref q∧SqL X.K H p xs∧SqL X.K H q ys∧(∀i,i<xs.length→i<ys.length→ElEq X H e (xs.getD i .non) (ys.getD i .non))∧Q (.bl (if neg then !eG e xs ys else eG e xs ys)) H
theorem aBN{pins:List (Addr×Obj)}{s:Shared}{σ:St}{H:Hp}{A:Around}{e:V→V→Bool}{xs ys:List V}{us vs:List Value}(I:Inv X pins σ H s)(hu:A.units+1<cLine)(rx:Vals xs us)(ry:Vals ys vs)(he:∀i,i<xs.length→i<ys.length→ElEq X H e (xs.getD i .non) (ys.getD i .non)):∀j (h1:j<us.toArray.size) (h2:j<vs.toArray.size),SeqAt.EqAt A s us.toArray[j] vs.toArray[j] (e (xs.getD j .non) (ys.getD j .non)):=by
 intro j h1 h2
 have j1:j<xs.length:=by rw[rx.length];simpa using h1
 have j2:j<ys.length:=by rw[ry.length];simpa using h2
 have e1:xs[j]?=some (xs.getD j .non):=by rw[List.getD_eq_getElem?_getD,List.getElem?_eq_getElem j1];rfl
 have e2:ys[j]?=some (ys.getD j .non):=by rw[List.getD_eq_getElem?_getD,List.getElem?_eq_getElem j2];rfl
 obtain⟨u,hu1,ru⟩:=rx.get e1
 obtain⟨v,hv1,rv⟩:=ry.get e2
 have eu:us.toArray[j]=u:=by
  have:us[j]?=some us.toArray[j]:=by simp at h1 ⊢
  rw[hu1] at this;exact(Option.some.inj this).symm
 have ev:vs.toArray[j]=v:=by
  have:vs[j]?=some vs.toArray[j]:=by simp at h2 ⊢
  rw[hv1] at this;exact(Option.some.inj this).symm
 rw[eu,ev]
 exact he j j1 j2 pins s σ A u v I hu ru rv
theorem aAO{e:V→V→Bool}(hu:X.A.units+2<cLine):OpR X (compareOp .Eq) (rLEq X false e):=by
 intro pins s σ H x y v u Q I rx ry h
 obtain⟨p,q,xs,ys,rfl,rfl,hp,hq,he,k⟩:=h
 obtain rfl:v=Value.ref p:=rx
 obtain rfl:u=Value.ref q:=ry
 obtain⟨us,r1,p1,_⟩:=I.list hp
 obtain⟨vs,r2,p2,_⟩:=I.list hq
 by_cases hl:xs.length=ys.length
 ·refine SeqAt.eq_listAt (e:=fun i=>e (xs.getD i .non) (ys.getD i .non)) p1.isList p2.isList (by simp only[List.size_toArray];rw[← r1.length,← r2.length];exact hl) (by lia) (aBN I (by show X.A.units+1+1<cLine;lia) r1 r2 he) ⟨.bl _,H,I,rfl,?_⟩
  rw[show us.toArray.size=xs.length by rw[List.size_toArray,r1.length],← jC hl]
  exact k
 ·refine SeqAt.eq_list_lengthsAt p1.isList p2.isList (by simp only[List.size_toArray];rw[← r1.length,← r2.length];simpa using hl) (by lia) ⟨.bl _,H,I,rfl,?_⟩
  have k':=k
  rw[qM hl] at k'
  exact k'
theorem qN(hc:X.calm=true):cU X (.builtin "any") (fun xs H Q=>∃ (p:Addr) (bs:List Bool),xs=[.ref p]∧SqL X.K H p (bs.map V.bl)∧Q (.bl (bs.any id)) H):=by
 intro pins s σ H xs us Q I r h
 obtain⟨p,bs,rfl,hp,q⟩:=h
 obtain⟨u1,rfl,r1⟩:=r.one
 obtain rfl:u1=Value.ref p:=r1
 obtain⟨its,rv,pl,hz⟩:=I.list hp
 have hits:its=bs.map Value.bool:=by
  have go:∀ (bs:List Bool) (its:List Value),Vals (bs.map V.bl) its→its=bs.map Value.bool:=by
   intro bs
   induction bs with
   |nil=>intro its r;cases r;rfl
   |cons b bs ih=>
    intro its r
    cases r with
    |cons r rr=>
     obtain rfl:=(show _=Value.bool b from r)
     rw[ih _ rr];rfl
  exact go bs its rv
 subst hits
 obtain⟨ob,hob,_⟩:=id pl.isList
 have hlt:p<s.heap.objs.size:=Heap.lt_size hob
 refine call_any_walk (wpAny_pyIter_list pl.isList ⟨s.heap.objs.size,_,_,_,_,_,fun i=>bs.getD i false,rfl,Walks.list (show X.A.in1.handled=none from I.ok.hd hc) _ p (Nat.ne_of_lt hlt) _,⟨⟨_,Heap.get?_push_size _ rfl,rfl,rfl⟩,pl.isList.push _⟩,fun i v s1 Q' E' hv hq=>?_,fun h' tk k=>?_⟩)
 ·have hv':(bs.map Value.bool)[i]?=some v:=by simpa using hv
  rw[List.getElem?_map] at hv'
  cases eb:bs[i]? with
  |none=>rw[eb] at hv';cases hv'
  |some b=>
   rw[eb] at hv'
   obtain rfl:Value.bool b=v:=Option.some.inj hv'
   have:bs.getD i false=b:=by rw[List.getD_eq_getElem?_getD,eb];rfl
   have hq':Q' b s1:=by rw[← this];exact hq
   exact wpAny_pure hq'
 ·have keep:∀b o,s.heap.get? b=some o→h'.get? b=some o:=fun b o e=>k b o (by simpa using Nat.ne_of_lt (Heap.lt_size e)) (Heap.get?_push_of_some _ e)
  refine⟨.bl (bs.any id),H,I.kept (t':=tk) keep,?_,q⟩
  show Value.bool _=Value.bool _
  congr 1
  have go:∀ (bs:List Bool),((List.range bs.length).any fun i=>bs.getD i false)=bs.any id:=by
   intro bs
   induction bs with
   |nil=>rfl
   |cons b bs ih=>
    rw[List.length_cons,List.range_succ_eq_map,List.any_cons,List.any_map,List.any_cons,← ih]
    rfl
  rw[← go bs]
  simp
end
end L2
namespace L2
open PySem PySem.Spec PyProof.Rows
def lS(c:Addr)(qual:Str):HO:=.ext fun h=>h.CodeRec (.ref c) qual
theorem aBO{P:Program}{w:World}{H:Hp}{h:Heap}{c:Addr}{qual:Str}(x:h.CodeRec (.ref c) qual):bU P w H h c (lS c qual):=by
 refine⟨x,?_,?_⟩
 ·obtain⟨c',o,vs,t,e,ho,_⟩:=x
  cases e;exact⟨o,ho⟩
 ·rintro h1 h2 ⟨c',o,vs,t,e,ho,r⟩ k
  cases e;exact⟨c,o,vs,t,rfl,k o ho,r⟩
def aCt(f:Addr)(qual:Str)(params:Arguments)(body:Expr)(scope:Scope)(cells:List (Str×Addr))(c:Addr)(h:Heap):Prop:=
 ∃ (clos:List (Str×Addr)) (pm ctv:Value),(∀x a,clos.lookup x=some a→cells.lookup x=some a)∧(∀x,(x,NameKind.free)∈scope.names→∃a,clos.lookup x=some a)∧
  h.get? f=some (PySem.W.kla_obj "<lambda>" qual params body scope clos pm c ctv)
def lamO(f:Addr)(qual:Str)(params:Arguments)(body:Expr)(scope:Scope)(cells:List (Str×Addr))(c:Addr):HO:=.ext (aCt f qual params body scope cells c)
theorem wO{P:Program}{w:World}{H:Hp}{h:Heap}{f:Addr}{qual:Str}{params:Arguments}{body:Expr}{scope:Scope}{cells:List (Str×Addr)}{c:Addr}(x:aCt f qual params body scope cells c h):
  bU P w H h f (lamO f qual params body scope cells c):=by
 refine⟨x,?_,?_⟩
 ·obtain⟨_,_,_,_,_,e⟩:=x
  exact⟨_,e⟩
 ·rintro h1 h2 ⟨clos,pm,ctv,a,b,e⟩ k
  exact⟨clos,pm,ctv,a,b,k _ e⟩
def yO(lp:Pos)(qual:Str)(P:Addr)(H:Hp):Prop:=H P=some (.tbl #[])∨∃c,H P=some (.tbl #[rawInt lp.line,rawInt lp.col,.ref c])∧H c=some (lS c qual)
structure LamC(X:Cx)(c P:Addr):Prop where
 code:X.env.code=.ref c
 hd:PySem.W.CodeHd X.base c P
 bm:∃bm o,X.mg "__builtins__"=some (.ref bm)∧bm≠builtinsNs∧bm≠mainGlobals∧X.base.get? bm=some o∧o.cls=.type "module"∧o.dict=some builtinsNs∧o.data=.plain
def tLam(lp:Pos)(qual:Str)(P:Addr)(params:Arguments)(body:Expr)(scope:Scope)(cells:List (Str×Addr)):TE:=fun _ H Q=>yO lp qual P H∧
 ∀ (f c:Addr) (H2:Hp),yO lp qual P H2→(∀b o,H b=some o→b≠P→H2 b=some o)→H2 c=some (lS c qual)→H2 f=some (lamO f qual params body scope cells c)→Q (.ref f) H2
theorem vQ{lp:Pos}{c:Addr}:TriplesOk (#[rawInt lp.line,rawInt lp.col,.ref c]:Array Value).toList:=trivial
theorem aAP{lp:Pos}{c:Addr}:codeAmong lp (#[rawInt lp.line,rawInt lp.col,.ref c]:Array Value).toList=some (.ref c):=by
 show (if ((lp.line:Int)==(lp.line:Int)&&(lp.col:Int)==(lp.col:Int))=true then some (Value.ref c) else _)=_
 simp
section
variable {X:Cx} {c P:Addr} {params:Arguments} {body:Expr} {scope:Scope} {lp:Pos} {NB:List Str} {src:List (Option Nat)}
theorem LamC.at(C:LamC X c P){pins:List (Addr×Obj)}{σ:St}{H:Hp}{s:Shared}{ps:Array Value}(I:Inv X pins σ H s)(hP:H P=some (.tbl ps)):s.heap.BuiltinsAt X.mg P:=by
 obtain⟨bm,o,b1,b2,b3,b4,b5,b6,b7⟩:=C.bm
 refine⟨bm,o,b1,b2,b3,fun z=>?_,I.bk _ _ b4,b5,b6,b7⟩
 have:=(I.bs _ _ b4).2
 rw[z,hP] at this;cases this
theorem Inv.globs{pins:List (Addr×Obj)}{σ:St}{H:Hp}{s:Shared}(I:Inv X pins σ H s):s.heap.Ns mainGlobals X.mg:=I.mod.glob.keeps I.bk
theorem aD2(C:LamC X c P)(S:eV NB src scope X)(hdef:defaultsOf params X.env=([],[]):=by rfl):PE X (.Lambda params body scope lp) (tLam lp (X.env.qual++"<lambda>") P params body scope X.env.cells):=by
 intro pins s σ H Q I h
 obtain⟨tab,h⟩:=h
 obtain⟨clos,ecl,c1,c2⟩:=jW I.ok S
 refine PySem.W.kla_eval hdef ?_
 have hsz:∀b o,s.heap.get? b=some o→b<s.heap.objs.size:=fun b o e=>Heap.lt_size e
 rcases tab with hP|⟨c',hP,hc'⟩
 ·-- the first time
  have hPo:s.heap.get? P=some (PySem.W.tabObj #[]):=I.hok P _ hP
  have hPL:X.env.locals≠P:=fun z=>by have f:=I.free;rw[z,hP] at f;cases f
  have hPg:mainGlobals≠P:=fun z=>by
   obtain⟨o,es,ep,e,d,_⟩:=I.mod.glob
   have:=(I.bs _ _ e).2
   rw[z,hP] at this;cases this
  refine PySem.W.kla_makeFunction (mg:=X.mg) ecl I.ok.glob I.globs C.code (C.hd.keeps I.bk) hPo (by trivial) rfl hPg (C.at I hP) fun c' ctv h' tk hx hge hlt hrec htb=>?_
  have hgt:∀b o,b≠P→s.heap.get? b=some o→(h'.push (PySem.W.kla_obj "<lambda>" (X.env.qual++"<lambda>") params body scope clos ((X.mg "__name__").getD .none) c' ctv)).get? b=some o:=fun b o hb e=>Heap.get?_push_of_some _ (hx b o hb e)
  have hcP:c'≠P:=Nat.ne_of_gt (Nat.lt_of_lt_of_le (hsz _ _ hPo) hge)
  have hfP:h'.objs.size≠P:=Nat.ne_of_gt (Nat.lt_of_lt_of_le (hsz _ _ hPo) (Nat.le_trans hge (Nat.le_of_lt hlt)))
  have hfc:h'.objs.size≠c':=Nat.ne_of_gt hlt
  have nf:H h'.objs.size=none:=I.hok.fresh (by lia)
  have nc:H c'=none:=I.hok.fresh hge
  let H2:Hp:=upd (upd (upd H P (.tbl #[rawInt lp.line,rawInt lp.col,.ref c'])) c' (lS c' (X.env.qual++"<lambda>"))) h'.objs.size (lamO h'.objs.size (X.env.qual++"<lambda>") params body scope X.env.cells c')
  have eP:H2 P=some (.tbl #[rawInt lp.line,rawInt lp.col,.ref c']):=by
   show upd _ _ _ _=_
   rw[aH hfP.symm,aH hcP.symm,aB]
  have ec:H2 c'=some (lS c' (X.env.qual++"<lambda>")):=by
   show upd _ _ _ _=_
   rw[aH hfc.symm,aB]
  have ef:H2 h'.objs.size=some (lamO h'.objs.size (X.env.qual++"<lambda>") params body scope X.env.cells c'):=aB
  have eo:∀b,b≠P→b≠c'→b≠h'.objs.size→H2 b=H b:=fun b h1 h2 h3=>by
   show upd _ _ _ _=_
   rw[aH h3,aH h2,aH h1]
  have old:∀b o,H b=some o→b≠P→H2 b=some o:=fun b o e hb=>by
   rw[eo b hb (aG e nc) (aG e nf)];exact e
  have I2:Inv X pins σ H2 { s with heap:=h'.push (PySem.W.kla_obj "<lambda>" (X.env.qual++"<lambda>") params body scope clos ((X.mg "__name__").getD .none) c' ctv),toks:=tk }:=by
   refine I.step (g':=s.gens) (d':=s.drawn) (ch:=[]) (fun _ z=>absurd z (by simp)) (fun b o _ _ _ e n=>hgt b o (fun z=>by rw[z,hP] at n;cases n) e) (fun b o _ _ _ e n=>⟨o.slots,hgt b o (fun z=>by rw[z,hP] at n;cases n) e⟩)
    (fun b o _ e n=>?_) (fun b o _ e=>?_) (fun b xs e=>old b _ e fun z=>by rw[z,hP] at e;cases e) (fun b o u e=>old b _ e fun z=>by rw[z,hP] at e;cases e) (fun b ps e=>?_) (fun m hm=>?_) (fun b o e=>?_) I.bare
   ·rw[eo b (fun z=>by rw[z,hP] at n;cases n) (Nat.ne_of_lt (Nat.lt_of_lt_of_le (hsz b o e) hge)) (Nat.ne_of_lt (Nat.lt_of_lt_of_le (hsz b o e) (Nat.le_trans hge (Nat.le_of_lt hlt))))]
    exact n
   ·by_cases hb:b=P
    ·exact⟨_,by rw[hb];exact Heap.get?_push_of_some _ htb⟩
    ·exact⟨o,hgt b o hb e⟩
   ·by_cases hb:b=P
    ·rw[hb] at e ⊢
     rw[hP] at e;cases e
     exact⟨#[rawInt lp.line,rawInt lp.col,.ref c'],by rw[eP];simp⟩
    ·exact⟨#[],by rw[old b _ e hb];simp⟩
   ·exact(hm.extBut hx hPL).push _
   ·by_cases hbf:b=h'.objs.size
    ·subst hbf
     rw[ef] at e;cases e
     exact wO ⟨clos,_,ctv,c1,c2,Heap.get?_push_size _ rfl⟩
    ·by_cases hbc:b=c'
     ·subst hbc
      rw[ec] at e;cases e
      refine aBO ?_
      obtain⟨c₂,oc,vs,t,e2,hoc,r⟩:=hrec
      exact⟨c₂,oc,vs,t,e2,Heap.get?_push_of_some _ hoc,r⟩
     ·by_cases hbP:b=P
      ·subst hbP
       rw[eP] at e;cases e
       exact Heap.get?_push_of_some _ htb
      ·rw[eo b hbP hbc hbf] at e
       refine(I.hok b o e).stay (fun d u hd q=>hgt d u ?_ q) (fun d q=>old d _ q fun z=>by rw[z,hP] at q;cases q) fun d xs q=>old d _ q fun z=>by rw[z,hP] at q;cases q
       rintro rfl
       rcases hd with z|z
       ·exact hbP z.symm
       ·rw[hP] at z;cases z
  exact⟨.ref h'.objs.size,H2,I2,rfl,h _ c' H2 (.inr ⟨c',eP,ec⟩) old ec ef⟩
 ·-- again
  have hPo:s.heap.get? P=some (PySem.W.tabObj #[rawInt lp.line,rawInt lp.col,.ref c']):=I.hok P _ hP
  refine PySem.W.kla_makeFunctionHit (mg:=X.mg) ecl I.ok.glob I.globs C.code (C.hd.keeps I.bk) hPo vQ aAP (C.at I hP) fun ctv h' tk hk hge=>?_
  have nf:H h'.objs.size=none:=I.hok.fresh hge
  let H2:Hp:=upd H h'.objs.size (lamO h'.objs.size (X.env.qual++"<lambda>") params body scope X.env.cells c')
  have ef:H2 h'.objs.size=some (lamO h'.objs.size (X.env.qual++"<lambda>") params body scope X.env.cells c'):=aB
  have old:∀b o,H b=some o→H2 b=some o:=fun b o e=>by
   show upd _ _ _ _=_
   rw[aH (aG e nf)];exact e
  have hgt:∀b o,s.heap.get? b=some o→(h'.push (PySem.W.kla_obj "<lambda>" (X.env.qual++"<lambda>") params body scope clos ((X.mg "__name__").getD .none) c' ctv)).get? b=some o:=fun b o e=>Heap.get?_push_of_some _ (hk b o e)
  have I2:Inv X pins σ H2 { s with heap:=h'.push (PySem.W.kla_obj "<lambda>" (X.env.qual++"<lambda>") params body scope clos ((X.mg "__name__").getD .none) c' ctv),toks:=tk }:=by
   refine I.step (g':=s.gens) (d':=s.drawn) (ch:=[]) (fun _ z=>absurd z (by simp)) (fun b o _ _ _ e n=>hgt b o e) (fun b o _ _ _ e n=>⟨o.slots,hgt b o e⟩)
    (fun b o _ e n=>?_) (fun b o _ e=>⟨o,hgt b o e⟩) (fun b xs e=>old b _ e) (fun b o u e=>old b _ e) (fun b ps e=>⟨#[],by rw[old b _ e];simp⟩) (fun m hm=>(hm.keeps hk).push _) (I.hok.laid hgt hge (wO ⟨clos,_,ctv,c1,c2,Heap.get?_push_size _ rfl⟩)) I.bare
   ·show upd _ _ _ _=_
    rw[aH (Nat.ne_of_lt (Nat.lt_of_lt_of_le (hsz b o e) hge))]
    exact n
  exact⟨.ref h'.objs.size,H2,I2,rfl,h _ c' H2 (.inr ⟨c',old _ _ hP,old _ _ hc'⟩) (fun b o e _=>old b o e) (old _ _ hc') ef⟩
end
end L2
namespace L2
open PySem PySem.Spec PyProof.Rows
def aAQ(X:Cx)(id:String)(ks:List Str)(r:St→List V→List V→Hp→VK→Prop):Prop:=
 ∀ (pins:List (Addr×Obj)) (s:Shared) (σ:St) (H:Hp) (vs zs:List V) (us ws:List Value) (Q:VK),Inv X pins σ H s→Vals vs us→Vals zs ws→r σ vs zs H Q→
  wpAny (model X.prog X.w) X.A (call (.builtin id) us (ks.zip ws)) (EP X pins σ Q) X.xe s
def tCBK(r:St→List V→List V→Hp→VK→Prop)(t tk:TA):TE:=fun σ H Q=>t σ H fun vs H1=>tk σ H1 fun zs H2=>r σ vs zs H2 Q
section
variable {X:Cx} {x:Str} {p pos:Pos} {e:Expr} {es:List Expr} {kws:List Keyword} {t tk:TA} {id:String} {ks:List Str} {r:St→List V→List V→Hp→VK→Prop}
theorem aAR(hc:aAQ X id ks r)(hg:Gl X x)(hm:X.mg x=none)(hv:bootBuiltins x=some (.builtin id))(ha:PA X (e::es) t)(hkw:PK X kws tk)(hn:x≠"__name__":=by decide)(hdb:(x==("__debug__":Str))=false:=by decide)(hks:(backToKw pos (keywordEach kws X.env)).filterMap (·.1)=ks:=by rfl)(he:backTo pos (starEach (e::es) X.env)=(false,eval e X.env)::backTo pos (starEach es X.env):=by rfl)(hplain:(backTo pos (starEach (e::es) X.env)).any (·.1)=false:=by rfl)(hall:(backToKw pos (keywordEach kws X.env)).all (·.1.isSome)=true:=by rfl)(hno:(backToKw pos (keywordEach kws X.env)).any (·.1.isNone)=false:=by rfl):PE X (.Call (.Name x p) (e::es) kws pos) (tCBK r t tk):=by
 intro pins s σ H Q I h
 refine wpAny_Call_Name_kw (fF I hg hm hv ?_ hn hdb)
 refine PyProof.Rows.callWith_kw (thn (ha pos pins s σ H _ I h) fun us s1 ⟨vs,H1,I1,r1,q1⟩=>?_) he hplain hall hno
 refine thn (hkw pos pins s1 σ H1 _ I1 q1) fun ws s2 ⟨zs,H2,I2,rz,q2⟩=>?_
 rw[hks]
 exact hc pins s2 σ H2 vs zs us ws Q I2 r1 rz q2
end
def KOut(za zb:Int)(ns out:List Int):Prop:=∃ps:List (Int×Int),ps.Perm (ns.map fun z=>((z-za) % zb,z))∧out=ps.map (·.2)∧ps.Pairwise fun p q=>p.1≤q.1
def aD3(X:Cx)(qual:Str)(params:Arguments)(body:Expr)(scope:Scope)(ia ib:Nat):St→List V→List V→Hp→VK→Prop:=fun σ vs zs H Q=>
 ∃ (l f c:Addr) (ns:List Int) (za zb:Int),vs=[.ref l]∧zs=[.ref f]∧SqL X.K H l (ns.map V.int)∧ns.length<64∧H f=some (lamO f qual params body scope X.env.cells c)∧H c=some (lS c qual)∧
  σ[ia]?=some (some (.int za))∧σ[ib]?=some (some (.int zb))∧0<zb∧∀ (r:Addr) (out:List Int),H r=none→KOut za zb ns out→Q (.ref r) (upd H r (.lst (out.map V.int)))
theorem qO:∀ {ns:List Int} {vs:List Value},Vals (ns.map V.int) vs→IntsAre vs ns
 |[],_,.nil=>.nil
 |_::_,_,.cons ⟨t,e⟩ r=>by subst e;exact .cons _ t (qO r)
structure LamS(X:Cx)(qual:Str)(params:Arguments)(body:Expr)(scope:Scope)(y a b:Str)(ia ib:Nat):Prop where
 bd:∃p1 p2 p3 p4 p5,body=.BinOp (.BinOp (.Name y p1) .Sub (.Name a p2) p3) .Mod (.Name b p4) p5
 bind:∀clos pm c ctv v,bindArgs (PySem.W.kla_fn "<lambda>" qual params body scope clos pm (.ref c) ctv) ⟨[v],[]⟩=pure [(y,v)]
 na:X.N[ia]?=some a
 nb:X.N[ib]?=some b
 ca:X.env.scope.names.lookup a=some .cell
 cb:X.env.scope.names.lookup b=some .cell
 ly:scope.names.lookup y=some .local
 fa:scope.names.lookup a=some .free
 fb:scope.names.lookup b=some .free
 ma:(a,NameKind.free)∈scope.names
 mb:(b,NameKind.free)∈scope.names
 nocell:∀z∈scope.names,z.2≠.cell
 kind:scope.kind=.function
 co:scope.isCoroutine=false
 gen:scope.isGenerator=false
 dy:(y==("__debug__":Str))=false
 da:(a==("__debug__":Str))=false∧(a==("__classdict__":Str))=false
 db:(b==("__debug__":Str))=false∧(b==("__classdict__":Str))=false
theorem yP{X:Cx}{qual:Str}{params:Arguments}{body:Expr}{scope:Scope}{y a b:Str}{ia ib k:Nat}(S:LamS X qual params body scope y a b ia ib)(hr:Room k X.A):
  aAQ X "sorted" ["key"] (aD3 X qual params body scope ia ib):=by
 intro pins s σ H vs zs us ws Q I r rz h
 obtain⟨l,f,c,ns,za,zb,rfl,rfl,hl,h64,hf,hc,sa,sb,hb0,q⟩:=h
 obtain⟨u1,rfl,r1⟩:=r.one
 obtain rfl:u1=Value.ref l:=r1
 obtain⟨w1,rfl,rw1⟩:=rz.one
 obtain rfl:w1=Value.ref f:=rw1
 obtain⟨its,rv,pl,hz⟩:=I.list hl
 have hI:=qO rv
 obtain⟨m,F⟩:=I.fr
 obtain⟨p1,p2,p3,p4,p5,rfl⟩:=S.bd
 obtain⟨clos,pm,ctv,c1,c2,hfo⟩:=(I.hok f _ hf).1
 have hcr:s.heap.CodeRec (.ref c) qual:=(I.hok c _ hc).1
 obtain⟨m',hn',hlk⟩:=I.loc
 have cellA:∃ca ta,clos.lookup a=some ca∧s.heap.IsCell ca (some (.int za ta)):=by
  obtain⟨u,⟨ta,rfl⟩,lk⟩:=hlk ia a (.int za) S.na sa (.inr (.inl S.ca))
  obtain⟨ca,e1⟩:=c2 a S.ma
  rcases lk with ⟨z,_⟩|⟨_,ca',e2,e3⟩
  ·have z':X.env.scope.names.lookup a=some .local:=z
   rw[S.ca] at z';cases z'
  ·have e4:=c1 a ca e1
   rw[e2] at e4;cases e4
   exact⟨ca,ta,e1,e3⟩
 have cellB:∃cb tb,clos.lookup b=some cb∧s.heap.IsCell cb (some (.int zb tb)):=by
  obtain⟨u,⟨tb,rfl⟩,lk⟩:=hlk ib b (.int zb) S.nb sb (.inr (.inl S.cb))
  obtain⟨cb,e1⟩:=c2 b S.mb
  rcases lk with ⟨z,_⟩|⟨_,cb',e2,e3⟩
  ·have z':X.env.scope.names.lookup b=some .local:=z
   rw[S.cb] at z';cases z'
  ·have e4:=c1 b cb e1
   rw[e2] at e4;cases e4
   exact⟨cb,tb,e1,e3⟩
 obtain⟨ca,ta,ea,ha⟩:=cellA
 obtain⟨cb,tb,eb,hb⟩:=cellB
 have noL:∀b' (o:Obj),s.heap.get? b'=some o→(∀es ep,o.data≠.dict es ep)→b'≠X.env.locals:=fun b' o e d z=>by
  obtain⟨o',es,ep,e',d',_⟩:=F.ns
  rw[z,e'] at e;cases e
  exact d _ _ d'
 have len:(ns.map fun z=>(z-za) % zb).length=its.length:=by rw[List.length_map,hI.length]
 refine ksk_sorted (b:=false) (f:=.ref f) (kz:=ns.map fun z=>(z-za) % zb) F aBE pl.isList len (by rw[hI.length];exact h64) (ksk_s1 _ _) (fun x=>ksk_l1 _ _) (fun x=>ksk_t1 _ _) ?_ ?_
 ·-- one key
  intro i v k hv hk h tk own F' N'
  have at_:∀b' u,b'≠X.env.locals→s.heap.get? b'=some u→h.get? b'=some u:=fun b' u hne e=>by
   cases z:X.base.get? b' with
   |some o=>
    have:=I.bk b' o z
    rw[e] at this;cases this
    exact F'.keep b' _ z
   |none=>exact(N' (b',u) (List.mem_append_left _ (jA hne z e))).1
  have hfo':=at_ f _ (noL f _ hfo (by intro es ep z;cases z)) hfo
  have hcr':h.CodeRec (.ref c) qual:=by
   obtain⟨c0,o,vs0,t0,e0,ho,hd,hv0⟩:=hcr
   refine⟨c0,o,vs0,t0,e0,at_ _ _ (noL _ _ ho (by rw[hd];intro es ep z;cases z)) ho,hd,hv0⟩
  have ha':h.IsCell ca (some (.int za ta)):=by
   obtain⟨o,ho,hd⟩:=ha
   exact⟨o,at_ _ _ (noL _ _ ho (by rw[hd];intro es ep z;cases z)) ho,hd⟩
  have hb':h.IsCell cb (some (.int zb tb)):=by
   obtain⟨o,ho,hd⟩:=hb
   exact⟨o,at_ _ _ (noL _ _ ho (by rw[hd];intro es ep z;cases z)) ho,hd⟩
  obtain⟨z,tz,rfl,rfl⟩:∃z tz,v=.int z tz∧k=(z-za) % zb:=by
   obtain⟨n,t,e⟩:=hI.all v (List.mem_of_getElem? hv)
   refine⟨n,t,e,?_⟩
   rw[List.getElem?_map] at hk
   have hn:=hI.nums
   have e1:(its.map numOf)[i]?=some n:=by rw[List.getElem?_map,hv,e];rfl
   rw[hn] at e1
   rw[e1] at hk
   exact(Option.some.inj hk).symm
  have hroom:X.A.in1.in1.depth<recursionLimit:=by
   have:=hr.dp
   show X.A.depth<_
   lia
  refine wpAny_call (PySem.W.kla_callFunE hroom hfo' rfl S.co S.gen rfl hcr' ?_)
  rw[S.bind]
  refine wpAny_pure (wpAny_newFunctionEnv S.nocell (fun x hx=>by rw[List.mem_singleton.mp hx];exact S.ly) (fun h₁ hns hsb=>⟨((I.ok.mod.nolimit).keeps F'.keep).fresh _ hsb,?_⟩) S.kind)
  have hk₁:∀b o,h.get? b=some o→h₁.get? b=some o:=fun b o e=>hsb.extBut b o (Nat.ne_of_lt (Heap.lt_size e)) (Heap.get?_push_of_some _ e)
  have ha₁:=ha'.keeps hk₁
  have hb₁:=hb'.keeps hk₁
  refine PySem.W.kla_codeExpr ?_
  refine wpAny_BinOp (wpAny_BinOp ?_)
  refine wpAny_Name (wpAny_loadName_local S.kind S.ly hns (v:=.int z tz) (by simp) ?_) S.dy
  refine wpAny_Name (wpAny_loadName_free S.kind S.fa ea ha₁ ?_ S.da.2) S.da.1
  refine sub_int ?_
  refine wpAny_Name (wpAny_loadName_free S.kind S.fb eb hb₁ ?_ S.db.2) S.db.1
  refine mod_int' (by lia) ?_
  rw[Int.fmod_eq_emod_of_nonneg _ (by lia)]
  refine KskEnd.intro (news':=fV X.base s.heap X.env.locals++own) ⟨F'.ns.keeps hk₁,fun b o e=>hk₁ b o (F'.keep b o e),F'.above⟩ (fun p hp=>⟨hk₁ _ _ (N' p hp).1,(N' p hp).2⟩) fun p hp=>hp
 ·-- the list
  intro D h' tk out cc F' N' hlt kout
  have hD:=qY I N' hlt
  obtain⟨ps,hp,ho,hs⟩:=kout
  have hmem:∀p∈ps,∃n t,p.2=.int n t:=fun p hp'=>by
   have:=hp.mem_iff.mp hp'
   exact hI.all _ (List.of_mem_zip this).2
  have hz':((ns.map fun z=>(z-za) % zb).zip its).map (fun p=>(p.1,numOf p.2))=ns.map fun z=>((z-za) % zb,z):=by
   have hn:=hI.nums
   rw[← hn]
   have go:∀ (l:List Value),((((l.map numOf).map fun z=>(z-za) % zb).zip l).map fun p=>(p.1,numOf p.2))=(l.map numOf).map fun z=>((z-za) % zb,z):=by
    intro l
    induction l with
    |nil=>rfl
    |cons x l ih=>simp only[List.map_cons,List.zip_cons_cons,ih]
   exact go its
  have vals:Vals ((ps.map fun p=>(p.1,numOf p.2)).map (fun p=>V.int p.2)) (ps.map Prod.snd):=by
   have go:∀ (l:List (Int×Value)),(∀p∈l,∃n t,p.2=.int n t)→Vals ((l.map fun p=>(p.1,numOf p.2)).map (fun p=>V.int p.2)) (l.map Prod.snd):=by
    intro l
    induction l with
    |nil=>intro _;exact .nil
    |cons x l ih=>
     intro hx
     refine .cons ?_ (ih fun p hp=>hx p (List.mem_cons_of_mem _ hp))
     obtain⟨n,t,e⟩:=hx x List.mem_cons_self
     show ∃t,x.2=Value.int (numOf x.2) t
     rw[e];exact⟨t,rfl⟩
   exact go ps hmem
  have hout:KOut za zb ns ((ps.map fun p=>(p.1,numOf p.2)).map (·.2)):=by
   refine⟨ps.map fun p=>(p.1,numOf p.2),?_,rfl,?_⟩
   ·rw[← hz'];exact hp.map _
   ·refine List.pairwise_map.mpr (hs.imp fun {p q} z=>?_)
    simpa using z
  have hDo:h'.get? D=some (seqObj "list" out cc):=(N' _ List.mem_cons_self).1
  have I2:Inv X pins σ (upd H D (.lst (((ps.map fun p=>(p.1,numOf p.2)).map (·.2)).map V.int))) { s with heap:=h',toks:=tk }:=by
   refine I.fromK F F' (fun p hp=>N' p (List.mem_cons_of_mem _ hp)) hD ⟨?_,ps.map Prod.snd,cc,?_,?_⟩
   ·have h1:=hp.length_eq
    rw[List.length_zip,len,Nat.min_self] at h1
    simp only[List.length_map]
    rw[h1,hI.length]
    exact Nat.le_trans (Nat.le_of_lt h64) (by decide)
   ·have ev:=vals;simp only[List.map_map] at ev ⊢;exact ev
   ·rw[hDo,← ho]
  exact⟨.ref D,_,I2,rfl,q D _ (I.hok.freshN hD) hout⟩
end L2
namespace L2
open PySem PySem.Spec PyProof.Rows
def BmOk(mg:Str→Option Value)(base:Heap):Prop:=∃bm o,mg "__builtins__"=some (.ref bm)∧bm≠builtinsNs∧bm≠mainGlobals∧base.get? bm=some o∧o.cls=.type "module"∧o.dict=some builtinsNs∧o.data=.plain
def rG(ts:List Addr)(H:Hp):Prop:=(∀P∈ts,H P=some (.tbl #[]))∧∀b,H b=none∨(b∈ts∧H b=some (.tbl #[]))∨∃o xs,H b=some (.frz o (.lst xs))
theorem aAS{P:Program}{w:World}{K:PySem.W.Frag}{mg mb:Str→Option Value}{CX:CXT}{k:Nat}{fa a:Addr}{fd:FuncData}{x:Str}{sp:Sp}{s₁:Shared}{vs:List Value}{ns:List Int}{ts:List Addr}(KX:K.In s₁.heap)(hns:s₁.heap.Ns mainGlobals mg)(hb:s₁.heap.Ns builtinsNs mb)(hbb:∀x:Str,x≠"__name__"→mb x=bootBuiltins x)(hlim:s₁.heap.NoLimit)(hg:s₁.gens=#[])(hbm:BmOk mg s₁.heap)(hts:∀P∈ts,s₁.heap.get? P=some (PySem.W.tabObj #[]))(hcd:∀P∈ts,∃c,PySem.W.codeHdIn K c P=true)(hkt:∀P∈ts,K.lookup P=none)(ha:s₁.heap.get? a=some { cls:=.type "list",data:=.seq vs.toArray })(hi:IntsAre vs ns)(hl:ns.length≤sizeLine)(hr:Room k callerA)(F:∀base:Heap,K.In base→base.Ns mainGlobals mg→BmOk mg base→FnOk P w K mg base CX k fa fd [x] sp)(hbind:∀ (s:Shared) (u:Value),BindsTo s fd ⟨[u],[]⟩ [(x,u)])(hsp:∀H:Hp,rG ts H→SqL K H a (ns.map V.int)→sp [.ref a] H (fun v _=>v=.bl true) fun _ _ _=>False)(hCX:∀H e s',CX [] H s₁ (fun _ _ _=>False) e s'→False):
  codeAny (model P w) callerA (.call (.ref fa) ⟨[.ref a],[]⟩) (fun r s'=>r=.ok (.ret (.bool true))∧OldK s₁.heap s'.heap∧s'.os=s₁.os∧AllBare s'.gens) s₁:=by
 have rv:=qH hi
 have lenV:=hi.length
 have hat:a∉ts:=fun z=>by
  have:=hts a z
  rw[ha] at this;cases this
 have core:∀H:Hp,rG ts H→SqL K H a (ns.map V.int)→HOk P w H s₁.heap→(∀b,H b≠none→b=a∨b∈ts)→(H a≠none→K.lookup a=none)→
   codeAny (model P w) callerA (.call (.ref fa) ⟨[.ref a],[]⟩) (fun r s'=>r=.ok (.ret (.bool true))∧OldK s₁.heap s'.heap∧s'.os=s₁.os∧AllBare s'.gens) s₁:=by
  intro H hO hS hok hA hK
  have base_of:∀ {b:Addr} {o:Obj},s₁.heap.get? b=some o→H b=none→(hidT s₁.heap H).get? b=some o:=fun e n=>aBD e n
  have noA:∀ {b:Addr} {o:Obj},s₁.heap.get? b=some o→(∀v n,o.data≠.seq v n)→(∀v,o.data≠.fields v)→H b=none:=fun {b o} e d1 d2=>by
   cases q:H b with
   |none=>rfl
   |some u=>
    rcases hA b (by rw[q];simp) with e'|e'
    ·subst e'
     rw[ha] at e;cases e
     exact absurd rfl (d1 _ _)
    ·rw[hts b e'] at e;cases e
     exact absurd rfl (d2 _)
  have nsK:∀ {b:Addr} {m:Str→Option Value},s₁.heap.Ns b m→(hidT s₁.heap H).Ns b m:=fun {b m} ⟨o,es,ep,e,d,r⟩=>⟨o,es,ep,base_of e (noA e (by rw[d];intro v n z;cases z) (by rw[d];intro v z;cases z)),d,r⟩
  have hKb:K.In (hidT s₁.heap H):=fun b o e=>base_of (KX b o e) (by
   cases q:H b with
   |none=>rfl
   |some u=>
    rcases hA b (by rw[q];simp) with e'|e'
    ·subst e'
     rw[hK (by rw[q];simp)] at e;cases e
    ·rw[hkt b e'] at e;cases e)
  have hB:BmOk mg (hidT s₁.heap H):=by
   obtain⟨bm,o,b1,b2,b3,b4,b5,b6,b7⟩:=hbm
   exact⟨bm,o,b1,b2,b3,base_of b4 (noA b4 (by rw[b7];intro v n z;cases z) (by rw[b7];intro v z;cases z)),b5,b6,b7⟩
  have hM:Mod K mg (hidT s₁.heap H):=⟨hKb,nsK hns,⟨mb,nsK hb,hbb⟩,let ⟨mc,h1,h2⟩:=hlim;⟨mc,nsK h1,h2⟩⟩
  have e0:Env0 P w K mg (hidT s₁.heap H) callerA [] s₁ H:=⟨rfl,hM,fun b o e=>aCF e,Nat.le_of_eq (aAf _ _),trivial,fun b hb=>absurd (show b∈([]:List Addr) from hb) (by simp),hok,.of_eq hg⟩
  refine codeAny_mono ((F _ hKb (nsK hns) hB).run callerA [] s₁ H ⟨[.ref a],[]⟩ [.ref a] [.ref a] _ _ hr e0 (hbind s₁ (.ref a)) (.cons rfl .nil) (hsp H hO hS)) fun r s' h=>?_
  cases r with
  |error e=>exact(hCX H e s' h).elim
  |ok fl=>
   cases fl with
   |next=>exact False.elim h
   |brk=>exact False.elim h
   |cont=>exact False.elim h
   |ret u=>
    obtain⟨v,H',os,bare,un,hok',r',q⟩:=h
    have q':v=.bl true:=q
    subst q'
    obtain rfl:u=Value.bool true:=r'
    refine⟨rfl,⟨fun b o e=>?_,fun b o e=>un.there b o e (by simp)⟩,os,bare⟩
    cases q:H b with
    |none=>exact .inl (un.keep b o e q (by intro z;exact absurd (show b∈([]:List Addr) from z) (by simp)) (by simp))
    |some u=>
     rcases hO.2 b with z|⟨zt,z⟩|⟨ob,xs,z⟩
     ·rw[q] at z;cases z
     ·obtain⟨more,z2⟩:=un.tbls b _ z
      have e1:=hts b zt
      rw[e] at e1;cases e1
      have e2:s'.heap.get? b=some { cls:=.none,data:=.fields (#[]++more) }:=hok' b _ z2
      obtain⟨c,hc⟩:=hcd b zt
      obtain⟨oc,vsc,_,_,_,_,_,_,_,g1,g2,g3,g4,_⟩:=PySem.W.codeHd_of_K KX hc
      exact .inr (.inl ⟨⟨c,oc,vsc,g1,g2,g3,g4⟩,rfl,#[],more,rfl,e2⟩)
     ·have z2:=un.frzs b ob _ z
      obtain⟨e1,_⟩:=hok b _ z
      obtain⟨e2,_⟩:=hok' b _ z2
      rw[e] at e1;cases e1
      exact .inl e2
 have tabOk:∀ (H:Hp),(∀P∈ts,H P=some (.tbl #[]))→True:=fun _ _=>trivial
 classical
 cases hk:K.lookup a with
 |some o=>
  have e:=KX a o hk
  rw[ha] at e
  cases e
  refine core (fun b=>if b∈ts then some (.tbl #[]) else none) ⟨fun P hP=>if_pos hP,fun b=>?_⟩ (.inr ⟨_,vs.toArray,_,hk,rfl,rfl,rfl,by rw[List.size_toArray,lenV];exact hl,by simpa using rv⟩) (fun b u z=>?_) (fun b z=>?_) fun z=>absurd (if_neg hat) z
  ·by_cases hb:b∈ts
   ·exact .inr (.inl ⟨hb,if_pos hb⟩)
   ·exact .inl (if_neg hb)
  ·by_cases hb:b∈ts
   ·have z':=(if_pos hb).symm.trans z
    cases z'
    exact hts b hb
   ·have z':=(if_neg hb).symm.trans z
    cases z'
  ·by_cases hb:b∈ts
   ·exact .inr hb
   ·exact absurd (if_neg hb) z
 |none=>
  refine core (fun b=>if b=a then some (.frz { cls:=.type "list",data:=.seq vs.toArray } (.lst (ns.map V.int))) else if b∈ts then some (.tbl #[]) else none) ⟨fun P hP=>?_,fun b=>?_⟩ (.inl (.inr ⟨{ cls:=.type "list",data:=.seq vs.toArray },if_pos rfl⟩)) (fun b u z=>?_) (fun b z=>?_) fun _=>hk
  ·have:P≠a:=fun z=>hat (z ▸ hP)
   show (if P=a then _ else if P∈ts then _ else _)=_
   rw[if_neg this,if_pos hP]
  ·by_cases hb:b=a
   ·exact .inr (.inr ⟨_,_,if_pos hb⟩)
   ·by_cases ht:b∈ts
    ·exact .inr (.inl ⟨ht,by show (if b=a then _ else if b∈ts then _ else _)=_;rw[if_neg hb,if_pos ht]⟩)
    ·exact .inl (by show (if b=a then _ else if b∈ts then _ else _)=_;rw[if_neg hb,if_neg ht])
  ·by_cases hb:b=a
   ·have z':=(if_pos hb).symm.trans z
    cases z'
    subst hb
    exact⟨ha,by rw[List.length_map];exact hl,vs,_,rv,ha⟩
   ·have z1:(if b∈ts then some (HO.tbl #[]) else none)=some u:=(if_neg hb).symm.trans z
    by_cases ht:b∈ts
    ·rw[if_pos ht] at z1;cases z1
     exact hts b ht
    ·rw[if_neg ht] at z1;cases z1
  ·by_cases hb:b=a
   ·exact .inl hb
   ·by_cases ht:b∈ts
    ·exact .inr ht
    ·exact absurd (by show (if b=a then _ else if b∈ts then _ else _)=_;rw[if_neg hb,if_neg ht]) z
theorem aBP{l:PySem.W.OpenLaw}{n k:Nat}{q:Program}{loose:List Str}{XP:(Str→Option Value)→Heap→Prop}{YP:World→Heap→Prop}{d:DefRec}{K:Params→PySem.W.Frag}{CX:World→CXT}{sp:World→Sp}{x:Str}{ts:List Addr}(hn:l.most=some n)(hn2:n≤sizeLine)(hdf:d.params.defaults=[])(hr:Room k callerA)(hY:∀ (w:World) (h:Heap),YP w h→(K w.params).In h)(hT:∀ (w:World) (h:Heap),YP w h→∀P∈ts,h.get? P=some (PySem.W.tabObj #[]))(hcd:∀ (w:World),∀P∈ts,∃c,PySem.W.codeHdIn (K w.params) c P=true)(hkt:∀ (w:World),∀P∈ts,(K w.params).lookup P=none)(F:∀ (w:World) (mg:Str→Option Value) (fa:Addr) (h:Heap),(K w.params).In h→h.Ns mainGlobals mg→mg d.name=some (.ref fa)→
   ∃fd:FuncData,(∀ (s:Shared) (u:Value),BindsTo s fd ⟨[u],[]⟩ [(x,u)])∧
    ∀base:Heap,(K w.params).In base→base.Ns mainGlobals mg→BmOk mg base→FnOk l.prog w (K w.params) mg base (CX w) k fa fd [x] (sp w))(hsp:∀ (w:World) (H:Hp) (a:Addr) (ns:List Int),ns.length≤n→rG ts H→SqL (K w.params) H a (ns.map V.int)→sp w [.ref a] H (fun v _=>v=.bl true) fun _ _ _=>False)(hCX:∀ (w:World) (H:Hp) (s:Shared) (e:Value) (s':Shared),CX w [] H s (fun _ _ _=>False) e s'→False):
  PySem.W.WalkO q loose XP YP l.row.toRowW d [] (fun f vs=>PySem.call f vs):=by
 refine Att.attach_call hn hdf fun w s₀ s₁ mg mb fa o pm cd doc a vs ns G Y ho hd hcd' hmg hobj hints hlen hg=>?_
 have KX:=hY w _ Y
 obtain⟨fd,hb,hF⟩:=F w mg fa _ KX G.T.g hmg
 have hB:BmOk mg s₁.heap:=by
  obtain⟨bm,ob,b1,b2,b3,b4,b5,b6⟩:=G.T.bmain
  refine⟨bm,ob,b1,b2,fun z=>?_,b3,b4,b5,b6⟩
  obtain⟨o',es,ep,e,hd',_⟩:=G.T.g
  rw[z,e] at b3;cases b3;rw[hd'] at b6;cases b6
 exact aAS KX G.T.g G.T.b G.T.builtins G.T.nolimit hg hB (hT w _ Y) (hcd w) (hkt w) hobj hints (Nat.le_trans hlen hn2) hr hF hb (fun H hO hS=>hsp w H a ns hlen hO hS) fun H e s'=>hCX w H s₁ e s'
structure FunC(K:PySem.W.Frag)(x qual:Str)(st:Stmt)(f:Addr)(fd:FuncData)(c:Addr):Prop where
 ex:∃ (oc:Value) (od:Option Addr) (kV doc pm:Value) (an:Option Addr) (ct:Value) (osl:Array (Option Value)),
  fd=PySem.W.fnOf x qual (cS st) (cB st) (aL st) .none kV doc pm an (.ref c) ct∧K.lookup f=some ⟨oc,od,.func fd,osl⟩∧PySem.W.codeIn K (.ref c) qual=true
 kp:PySem.W.keepIn K (.ref f)=true
theorem FunC.fun{K:PySem.W.Frag}{x qual:Str}{st:Stmt}{f:Addr}{fd:FuncData}{c:Addr}(F:FunC K x qual st f fd c):Fun K x qual st f fd:=by
 obtain⟨oc,od,kV,doc,pm,an,ct,osl,e,lk,hcd⟩:=F.ex
 exact⟨⟨oc,od,kV,doc,pm,an,_,ct,osl,e,lk,hcd⟩,F.kp⟩
section
variable {P:Program} {w:World} {K:PySem.W.Frag} {mg:Str→Option Value} {base:Heap}
theorem FunC.ok{x qual:Str}{st:Stmt}{f:Addr}{fd:FuncData}{c:Addr}{N ps:List Str}{k:Nat}{sp:Sp}(F:FunC K x qual st f fd c)(S:aW N ps (aL st))(len:∀vs H Q E,sp vs H Q E→vs.length=ps.length)(hbody:∀ (A:Around) (outer:List Env) (s:Shared) (H:Hp) (vs:List V) (Q:VK) (E:XK),Room k (A.deeper (envOfC qual (aL st) s.heap.objs.size f (.ref c)))→sp vs H Q E→
   ∃t,PSs (cxOf CX0 P w K mg base N qual (aL st) f (.ref c) A outer s H E).nox (cB st) t∧t { nx:=fun _ H'=>Q .non H',rt:=Q } (start N vs) H):FnOk P w K mg base CX0 (k+1) f fd ps sp:=by
 obtain⟨oc,od,kV,doc,pm,an,ct,osl,rfl,lk,hcd⟩:=F.ex
 refine aCq lk hcd S len fun A outer s H vs Q E hr hsp=>?_
 obtain⟨t,h,q⟩:=hbody A outer s H vs Q E hr hsp
 exact⟨t,h.nox,q⟩
theorem aCV{x qual:Str}{st:Stmt}{f c:Addr}{oc:Value}{od an:Option Addr}{osl:Array (Option Value)}{kV doc pm ct:Value}(l:K.lookup f=some ⟨oc,od,.func (PySem.W.fnOf x qual (cS st) (cB st) (aL st) .none kV doc pm an (.ref c) ct),osl⟩)(hcd:PySem.W.codeIn K (.ref c) qual=true)(kp:PySem.W.keepIn K (.ref f)=true):FunC K x qual st f (PySem.W.fnOf x qual (cS st) (cB st) (aL st) .none kV doc pm an (.ref c) ct) c:=⟨⟨oc,od,kV,doc,pm,an,ct,osl,rfl,l,hcd⟩,kp⟩
theorem aCW{N:List Str}{qual:Str}{scope:Scope}{f c P':Addr}{CX:CXT}{A:Around}{outer:List Env}{s:Shared}{H:Hp}{E:XK}(kb:K.In base)(hb:BmOk mg base)(hc:PySem.W.codeHdIn K c P'=true):
  LamC (cxOf CX P w K mg base N qual scope f (.ref c) A outer s H E).nox c P':=⟨rfl,PySem.W.codeHd_of_K kb hc,hb⟩
end
end L2
namespace L2
open PySem PySem.Spec PyProof.Rows
def lT(sc scX:Scope)(y:Str×NameKind):Bool:=match y.2 with
 |.cell=>(match sc.names.lookup y.1 with|some .cell=>true|_=>false)
 |.local=>(match sc.names.lookup y.1 with|some .local=>true|_=>false)
 |.free=>(match scX.names.lookup y.1 with|some .cell=>true|some .free=>true|_=>false)
 |_=>true
def aAT(NB:List Str)(src:List (Option Nat))(sc:Scope)(N:List Str)(i:Nat):Bool:=match NB[i]?,src[i]? with
 |some x,some (some j)=>(N[j]?==some x)&&(match sc.names.lookup x with|some .free=>true|_=>false)
 |_,_=>true
def wP(sc:Scope):Bool:=match sc.kind with|.function=>true|_=>false
def aAU(NB:List Str)(src:List (Option Nat))(sc scX:Scope)(N:List Str):Bool:=
 wP sc&&decide NB.Nodup&&(src.length==NB.length)&&(sc.names.all (lT sc scX))&&(List.range NB.length).all (aAT NB src sc N)
theorem bP{NB:List Str}{src:List (Option Nat)}{sc:Scope}{X:Cx}(h:aAU NB src sc X.env.scope X.N=true):eV NB src sc X:=by
 unfold aAU at h
 simp only[Bool.and_eq_true,decide_eq_true_eq,beq_iff_eq,List.all_eq_true] at h
 obtain⟨⟨⟨⟨h1,h2⟩,h3⟩,h4⟩,h5⟩:=h
 refine⟨?_,h2,h3,fun y hy z=>?_,fun y hy z=>?_,fun y hy z=>?_,fun i x j e1 e2=>?_⟩
 ·unfold wP at h1
  split at h1
  ·assumption
  ·cases h1
 ·have:=h4 y hy
  obtain⟨n,k⟩:=y
  obtain rfl:k=.cell:=z
  dsimp only[lT] at this ⊢
  split at this
  ·assumption
  ·cases this
 ·have:=h4 y hy
  obtain⟨n,k⟩:=y
  obtain rfl:k=.local:=z
  dsimp only[lT] at this ⊢
  split at this
  ·assumption
  ·cases this
 ·have:=h4 y hy
  obtain⟨n,k⟩:=y
  obtain rfl:k=.free:=z
  dsimp only[lT] at this ⊢
  split at this
  ·exact .inl (by assumption)
  ·exact .inr (by assumption)
  ·cases this
 ·have hi:i<NB.length:=(List.getElem?_eq_some_iff.mp e1).1
  have:=h5 i (List.mem_range.mpr hi)
  unfold aAT at this
  rw[e1,e2] at this
  simp only[Bool.and_eq_true,beq_iff_eq] at this
  refine⟨this.1,?_⟩
  have t2:=this.2
  split at t2
  ·assumption
  ·cases t2
theorem dI{K:PySem.W.Frag}{a D:Addr}{xs:List V}{g:TG}{tt:TT}{te:TE}{fin:Hp→Prop}{σB:St}{H0:Hp}(Pv:Nat→List V→St→Hp→Prop)(h0:Pv 0 [] σB H0)(hl:∀i ys σ H,i≤xs.length→Pv i ys σ H→SqL K H a xs)(hs:∀i x ys σ H (Kt:V→St→Hp→Prop) (Kf:St→Hp→Prop),xs[i]?=some x→Pv i ys σ H→
   (∀v σ2 H4,H4 D=some (.lst ys)→ys.length<sizeLine→Pv (i+1) (ys++[v]) σ2 (upd H4 D (.lst (ys++[v])))→Kt v σ2 H4)→(∀σ2 H3,Pv (i+1) ys σ2 H3→Kf σ2 H3)→
   g x σ H fun σ2 H2=>tt σ2 H2 fun b H3=>if b=true then te σ2 H3 fun v H4=>Kt v σ2 H4 else Kf σ2 H3)(hd:∀ys σ H,Pv xs.length ys σ H→fin H):dP (Itl K a) g tt te D fin σB H0:=by
 refine⟨fun i m σ H=>m=xs.length-i∧i≤xs.length∧∃ys,Pv i ys σ H,⟨xs.length,by simp,Nat.zero_le _,[],h0⟩,?_⟩
 rintro i m σ H ⟨rfl,hi,ys,p⟩
 have q:=hl i ys σ H hi p
 by_cases hlt:i<xs.length
 ·refine .inr ⟨⟨xs,xs[i],q,by simp[hlt]⟩,?_⟩
  rintro x H' ⟨rfl,y⟩
  exact hs i x ys σ _ (fun v σ2 H4=>∃ys,H4 D=some (.lst ys)∧ys.length<sizeLine∧∃m',m'<xs.length-i∧m'=xs.length-(i+1)∧i+1≤xs.length∧∃ys',Pv (i+1) ys' σ2 (upd H4 D (.lst (ys++[v]))))
   (fun σ2 H3=>∃m',m'<xs.length-i∧m'=xs.length-(i+1)∧i+1≤xs.length∧∃ys',Pv (i+1) ys' σ2 H3) (y xs q) p
   (fun v σ2 H4 z1 z2 z3=>⟨ys,z1,z2,_,by lia,rfl,hlt,_,z3⟩) (fun σ2 H3 z=>⟨_,by lia,rfl,hlt,_,z⟩)
 ·have e:i=xs.length:=by lia
  subst e
  exact .inl ⟨⟨xs,q,Nat.le_refl _⟩,hd ys σ H p⟩
theorem dZ{lo:Int}{n:Nat}{D:Addr}{g:TG}{tt:TT}{te:TE}{fin:Hp→Prop}{σB:St}{H0:Hp}(Pv:Nat→List V→St→Hp→Prop)(h0:Pv 0 [] σB H0)(hs:∀i ys σ H (Kt:V→St→Hp→Prop) (Kf:St→Hp→Prop),i<n→Pv i ys σ H→
   (∀v σ2 H4,H4 D=some (.lst ys)→ys.length<sizeLine→Pv (i+1) (ys++[v]) σ2 (upd H4 D (.lst (ys++[v])))→Kt v σ2 H4)→(∀σ2 H3,Pv (i+1) ys σ2 H3→Kf σ2 H3)→
   g (.int (lo+i)) σ H fun σ2 H2=>tt σ2 H2 fun b H3=>if b=true then te σ2 H3 fun v H4=>Kt v σ2 H4 else Kf σ2 H3)(hd:∀ys σ H,Pv n ys σ H→fin H):dP (Itr lo n) g tt te D fin σB H0:=by
 refine⟨fun i m σ H=>m=n-i∧i≤n∧∃ys,Pv i ys σ H,⟨n,by simp,Nat.zero_le _,[],h0⟩,?_⟩
 rintro i m σ H ⟨rfl,hi,ys,p⟩
 by_cases hlt:i<n
 ·refine .inr ⟨hlt,?_⟩
  rintro x H' ⟨rfl,rfl⟩
  exact hs i ys σ _ (fun v σ2 H4=>∃ys,H4 D=some (.lst ys)∧ys.length<sizeLine∧∃m',m'<n-i∧m'=n-(i+1)∧i+1≤n∧∃ys',Pv (i+1) ys' σ2 (upd H4 D (.lst (ys++[v]))))
   (fun σ2 H3=>∃m',m'<n-i∧m'=n-(i+1)∧i+1≤n∧∃ys',Pv (i+1) ys' σ2 H3) hlt p
   (fun v σ2 H4 z1 z2 z3=>⟨ys,z1,z2,_,by lia,rfl,hlt,_,z3⟩) (fun σ2 H3 z=>⟨_,by lia,rfl,hlt,_,z⟩)
 ·have e:i=n:=by lia
  subst e
  exact .inl ⟨Nat.le_refl _,hd ys σ H p⟩
end L2
namespace L2
open PySem PySem.Spec PyProof.Rows
section
variable {κ:Type} [DecidableEq κ]
def valV(kvs:List (κ×V))(k:κ):Option V:=(kvs.find? fun kv=>decide (kv.1=k)).map (·.2)
def putK(kvs:List (κ×V))(k:κ)(v:V):List (κ×V):=
 if (kvs.any fun kv=>decide (kv.1=k))=true then kvs.map (fun kv=>if kv.1=k then (kv.1,v) else kv) else kvs++[(k,v)]
theorem dC{p:κ×V}{r:List (κ×V)}{k:κ}(e:p.1=k):valV (p::r) k=some p.2:=by simp[valV,List.find?_cons,e]
theorem dD{p:κ×V}{r:List (κ×V)}{k:κ}(e:¬ p.1=k):valV (p::r) k=valV r k:=by simp[valV,List.find?_cons,e]
theorem jY(k:κ):∀kvs:List (κ×V),(kvs.any fun kv=>decide (kv.1=k))=(valV kvs k).isSome
 |[]=>rfl
 |p::r=>by
  rw[List.any_cons]
  by_cases e:p.1=k
  ·simp only[dC e,decide_eq_true e,Bool.true_or,Option.isSome_some]
  ·rw[dD e,decide_eq_false e,Bool.false_or];exact jY k r
theorem tD(k j:κ)(y:V):∀kvs:List (κ×V),valV (kvs.map fun kv=>if kv.1=k then (kv.1,y) else kv) j=(valV kvs j).map fun x=>if j=k then y else x
 |[]=>rfl
 |p::r=>by
  have ih:=tD k j y r
  rw[List.map_cons]
  by_cases h:p.1=k
  ·rw[if_pos h]
   by_cases e:p.1=j
   ·rw[dC (p:=(p.1,y)) e,dC e,Option.map_some,if_pos (e.symm.trans h)]
   ·rw[dD (p:=(p.1,y)) e,dD e,ih]
  ·rw[if_neg h]
   by_cases e:p.1=j
   ·rw[dC (p:=p) e,dC e,Option.map_some,if_neg (fun z=>h (e.trans z))]
   ·rw[dD (p:=p) e,dD e,ih]
theorem qP(k j:κ)(y:V):∀kvs:List (κ×V),valV kvs k=none→valV (kvs++[(k,y)]) j=if j=k then some y else valV kvs j
 |[],_=>by
  by_cases e:k=j
  ·rw[if_pos e.symm];exact dC (p:=(k,y)) e
  ·rw[if_neg (fun z=>e z.symm)];exact dD (p:=(k,y)) e
 |p::r,hn=>by
  rw[List.cons_append]
  have hk:¬ p.1=k:=fun z=>by rw[dC z] at hn;cases hn
  rw[dD hk] at hn
  have ih:=qP k j y r hn
  by_cases e:p.1=j
  ·rw[dC e,dC e,if_neg (fun z=>hk (e.trans z))]
  ·rw[dD e,dD e,ih]
theorem aBQ(kvs:List (κ×V))(k j:κ)(y:V):valV (putK kvs k y) j=if j=k then some y else valV kvs j:=by
 unfold putK
 by_cases a:(kvs.any fun kv=>decide (kv.1=k))=true
 ·rw[if_pos a,tD]
  rw[jY] at a
  by_cases e:j=k
  ·obtain⟨x,hx⟩:=Option.isSome_iff_exists.mp a
   rw[if_pos e,e,hx,Option.map_some,if_pos rfl]
  ·rw[if_neg e]
   cases valV kvs j with
   |none=>rfl
   |some x=>rw[Option.map_some,if_neg e]
 ·rw[if_neg a]
  refine qP k j y kvs ?_
  rw[jY] at a
  cases q:valV kvs k with
  |none=>rfl
  |some x=>rw[q] at a;exact(a rfl).elim
theorem vR(kvs:List (κ×V))(k:κ)(v:V):(putK kvs k v).length≤kvs.length+1:=by
 unfold putK
 split
 ·rw[List.length_map];lia
 ·rw[List.length_append,List.length_cons,List.length_nil];lia
theorem RelO.isSome_eq{o:Option V}{u:Option Value}(r:RelO o u):o.isSome=u.isSome:=by
 cases o with
 |none=>cases u with
  |none=>rfl
  |some _=>exact(show False from r).elim
 |some _=>cases u with
  |none=>exact(show False from r).elim
  |some _=>rfl
theorem KV.val{kvs:List (κ×V)}{vs:List (κ×Value)}(r:KV kvs vs)(k:κ):RelO (valV kvs k) (valueAt vs k):=by
 unfold KV at r
 induction r with
 |nil=>exact True.intro
 |@cons p q ps qs h t ih=>
  obtain⟨h1,h2⟩:=h
  by_cases e:p.1=k
  ·have e':q.1=k:=h1.symm.trans e
   have b:valueAt (q::qs) k=some q.2:=by simp[valueAt,List.find?_cons,e']
   rw[dC e,b];exact h2
  ·have e':¬ q.1=k:=fun z=>e (h1.trans z)
   have b:valueAt (q::qs) k=valueAt qs k:=by simp[valueAt,List.find?_cons,e']
   rw[dD e,b];exact ih
end
theorem aCu{P:Program}{w:World}{k:Key}{u:Value}(r:RelV (kV k) u):(bX P w).is k u=true:=by
 cases k with
 |inl i=>obtain⟨t,e⟩:=(show ∃t,u=Value.int i t from r);subst e;exact vJ P w i t
 |inr x=>obtain⟨t,e⟩:=(show ∃t,u=Value.str x t from r);subst e;exact vK P w x t
theorem qQ{P:Program}{w:World}:∀ {ks:List Key} {us:List Value},Vals (ks.map kV) us→ItemsAre (bX P w) ks us
 |[],_,r=>by rw[List.map_nil] at r;cases r;exact .nil
 |k::ks,_,r=>by
  rw[List.map_cons] at r
  cases r with
  |cons h t=>exact .cons (aCu h) (qQ t)
abbrev KT(H:Hp):List (List Key×V)→List (List Key×Addr×Value)→Prop:=Paired fun p q=>p.1=q.1∧H q.2.1=some (.tup (p.1.map kV))∧RelV p.2 q.2.2
theorem KT.val{H:Hp}{kvs:List (List Key×V)}{xs:List (List Key×Addr×Value)}(r:KT H kvs xs)(k:List Key):RelO (valV kvs k) ((atKey xs k).map (·.2)):=by
 induction r with
 |nil=>exact True.intro
 |@cons p q ps qs h t ih=>
  obtain⟨h1,_,h2⟩:=h
  by_cases e:p.1=k
  ·have e':q.1=k:=h1.symm.trans e
   have b:atKey (q::qs) k=some q.2:=by simp[atKey,List.find?_cons,e']
   rw[dC e,b];exact h2
  ·have e':¬ q.1=k:=fun z=>e (h1.trans z)
   have b:atKey (q::qs) k=atKey qs k:=by simp[atKey,List.find?_cons,e']
   rw[dD e,b];exact ih
theorem KT.repl{H:Hp}{kvs:List (List Key×V)}{xs:List (List Key×Addr×Value)}(r:KT H kvs xs)(k:List Key){y:V}{u:Value}(ry:RelV y u):
  KT H (kvs.map fun kv=>if kv.1=k then (kv.1,y) else kv) (xs.map (putAt k u)):=by
 induction r with
 |nil=>exact .nil
 |@cons p q ps qs h t ih=>
  rw[List.map_cons,List.map_cons]
  refine .cons ?_ ih
  obtain⟨h1,h2,h3⟩:=h
  unfold putAt
  by_cases e:p.1=k
  ·rw[if_pos e,if_pos (h1.symm.trans e)];exact⟨h1,h2,ry⟩
  ·rw[if_neg e,if_neg (fun z=>e (h1.trans z))];exact⟨h1,h2,h3⟩
theorem KT.put{H:Hp}{kvs:List (List Key×V)}{xs:List (List Key×Addr×Value)}(r:KT H kvs xs)(k:List Key){b:Addr}{y:V}{u:Value}(hb:H b=some (.tup (k.map kV)))(ry:RelV y u):
  KT H (putK kvs k y) (storedH xs k b u):=by
 have e:(kvs.any fun kv=>decide (kv.1=k))=(atKey xs k).isSome:=by
  rw[jY,(r.val k).isSome_eq,Option.isSome_map]
 unfold putK storedH
 rw[e]
 by_cases q:(atKey xs k).isSome=true
 ·rw[if_pos q,if_pos q];exact r.repl k ry
 ·rw[if_neg q,if_neg q];exact Paired.snoc r ⟨rfl,hb,ry⟩
theorem KT.keeps{H H':Hp}{kvs:List (List Key×V)}{xs:List (List Key×Addr×Value)}(r:KT H kvs xs)(ht:∀b ys,H b=some (.tup ys)→H' b=some (.tup ys)):KT H' kvs xs:=
 Paired.mapP r fun _ _ z=>⟨z.1,ht _ _ z.2.1,z.2.2⟩
section
variable {P:Program} {w:World} {H:Hp} {h:Heap} {a:Addr}
theorem aCv{u:HO}(ok:HOk P w H h)(e:Rd H a u):bU P w H h a u:=e.ok ok
theorem aEN{kvs:List (Key×V)}(ok:HOk P w H h)(e:Rd H a (.dK kvs)):kvs.length≤sizeLine∧(a==sysModules)=false∧∃vs,KV kvs vs∧h.DictOf (bX P w) a vs:=
 show bU P w H h a (.dK kvs) from aCv ok e
theorem jK{ks:List Key}(ok:HOk P w H h)(e:H a=some (.tup (ks.map kV))):(tupleKind (bX P w)).is h ks a:=by
 obtain⟨_,its,r,o,h1,h2,n,h3,_⟩:=(show bU P w H h a (.tup (ks.map kV)) from ok a _ e)
 exact⟨o,its.toArray,n,h1,h2,h3,by simpa using qQ r⟩
theorem aEO{kvs:List (List Key×V)}(ok:HOk P w H h)(e:Rd H a (.dT kvs)):kvs.length≤sizeLine∧(a==sysModules)=false∧
  ∃xs,KT H kvs xs∧h.DictOfH (tupleKind (bX P w)) a xs:=by
 obtain⟨z,y,xs,r,o,es,ep,h1,h2,h3,h4,h5⟩:=(show bU P w H h a (.dT kvs) from aCv ok e)
 refine⟨z,y,xs,r,o,es,ep,h1,h2,h3,h4,fun x hx=>?_,h5⟩
 have all:∀ {l:List (List Key×V)} {m:List (List Key×Addr×Value)},KT H l m→∀x∈m,(tupleKind (bX P w)).is h x.1 x.2.1:=by
  intro l m q
  induction q with
  |nil=>intro x hx;exact nomatch hx
  |@cons p q ps qs hq t ih=>
   intro x hx
   rcases List.mem_cons.mp hx with e|hx
   ·subst e
    exact jK ok (by rw[← hq.1];exact hq.2.1)
   ·exact ih x hx
 exact all r x hx
end
def DGet(H:Hp)(a:Addr)(y:V)(r:Option V):Prop:=
 (∃kvs k,Rd H a (.dK kvs)∧y=kV k∧r=valV kvs k)∨∃kvs k b,Rd H a (.dT kvs)∧y=.ref b∧H b=some (.tup (k.map kV))∧r=valV kvs k
theorem DGet.t{H:Hp}{a b:Addr}{kvs:List (List Key×V)}{k:List Key}(e:H a=some (.dT kvs))(eb:H b=some (.tup (k.map kV))):DGet H a (.ref b) (valV kvs k):=.inr ⟨kvs,k,b,.inl e,rfl,eb,rfl⟩
section
variable {X:Cx} {pins:List (Addr×Obj)} {σ:St} {H:Hp} {s:Shared} {a:Addr} {y v:V} {u r:Value} {o:Option V} {A:Around} {E:Value→Shared→Prop}
theorem d_in{Q:Value→Shared→Prop}(hu:A.units+1<cLine)(I:Inv X pins σ H s)(g:DGet H a y o)(ry:RelV y u)(h:∀s',Inv X pins σ H s'→Q (.bool o.isSome) s'):
  wpAny (model X.prog X.w) A (compareOp .In u (.ref a)) Q E s:=by
 rcases g with ⟨kvs,k,e,ey,l⟩|⟨kvs,k,b,e,ey,eb,l⟩
 ·subst ey
  obtain⟨z,hd,vs,rel,dd⟩:=aEN I.hok e
  refine wpAny_in_of (aCu ry) hd dd.mapOf ?_
  rw[← (rel.val k).isSome_eq,← l]
  exact h _ (I.tok _)
 ·subst ey
  cases (show u=Value.ref b from ry)
  obtain⟨z,hd,xs,rel,dd⟩:=aEO I.hok e
  refine wpAny_in_heap (tupleKind_room_in1 hu) (jK I.hok eb) hd dd ?_
  have q:=(rel.val k).isSome_eq
  rw[Option.isSome_map] at q
  rw[← q,← l]
  exact h _ (I.tok _)
end
section
variable {X:Cx} {pins:List (Addr×Obj)} {σ:St} {H:Hp} {s:Shared} {a:Addr} {kvs:List (Key×V)} {k:Key} {u:Value} {A:Around} {E:Value→Shared→Prop}
end
def tDIn(ty td:TE):TE:=fun σ H Q=>ty σ H fun y H1=>td σ H1 fun x H2=>∃a o,x=.ref a∧DGet H2 a y o∧Q (.bl o.isSome) H2
section
variable {X:Cx} {o i e value:Expr} {pos pos' tpos:Pos} {td ty tv:TE}
theorem aD4(hu:X.A.units+1<cLine)(hi:PE X i ty)(ho:PE X o td):PC X .In i o (tDIn ty td):=by
 intro pins s σ H Q I h
 refine thn (hi pins s σ H _ I h) fun iv s1 ⟨y,H1,I1,ry,q1⟩=>thn (ho pins s1 σ H1 _ I1 q1) fun u s2 ⟨x,H2,I2,rx,a,ov,ex,g,q2⟩=>?_
 subst ex
 obtain rfl:u=Value.ref a:=rx
 exact d_in hu I2 g ry fun s3 I3=>⟨.bl ov.isSome,H2,I3,rfl,q2⟩
end
section
variable {X:Cx} {pos:Pos}
end
section
variable {X:Cx} {pins:List (Addr×Obj)} {σ:St} {H:Hp} {s:Shared} {a:Addr} {y d:V} {u r:Value} {o:Option V} {A:Around} {E:Value→Shared→Prop}
end
section
variable {X:Cx} {o e f:Expr} {apos cpos:Pos} {td ty tx:TE}
end
section
variable {X:Cx} {pins:List (Addr×Obj)} {σ:St} {H:Hp} {s:Shared} {a:Addr} {kvs:List (Key×V)} {A:Around} {E:Value→Shared→Prop}
end
section
variable {X:Cx} {pins:List (Addr×Obj)} {σ:St} {H:Hp} {s:Shared} {a:Addr} {y:V} {u:Value} {A:Around} {E:Value→Shared→Prop}
end
end L2
namespace L2
open PySem PySem.Spec PyProof.Rows
section
variable {X:Cx}
end
section
variable {κ:Type} [DecidableEq κ]
end
end L2
namespace L2
open PySem PySem.Spec PyProof.Rows
section
variable {X:Cx}
theorem nY{x:V}:∀ {xs:List V} {its:List Value},Vals xs its→xs.all cZ=true→its.countP (eqU x)=xs.countP (fun z=>eqV z x)
 |[],_,.nil,_=>rfl
 |y::xs,_,.cons (b:=u) r rr,f=>by
  have fy:cZ y=true:=by rw[List.all_cons,Bool.and_eq_true] at f;exact f.1
  have fx:xs.all cZ=true:=by rw[List.all_cons,Bool.and_eq_true] at f;exact f.2
  have h1:[u].any (eqU x)=[y].any (fun z=>eqV z x):=iG (.cons r .nil) (by simp[fy])
  have h2:eqU x u=eqV y x:=by simpa using h1
  rw[List.countP_cons,List.countP_cons,nY rr fx,h2]
def aD5:V→List V→Hp→VK→Prop:=fun x vs H Q=>∃ (l:Addr) (xs:List V) (y:V),x=.ref l∧vs=[y]∧H l=some (.lst xs)∧cZ y=true∧xs.all cZ=true∧Q (.int (xs.countP fun z=>eqV z y)) H
theorem tE:MtM X "list.count" aD5:=by
 intro pins s σ H x vs v us Q I rx rv h
 obtain⟨l,xs,y,rfl,rfl,hH,fy,fs,q⟩:=h
 cases rx
 obtain⟨u,rfl,ru⟩:=rv.one
 obtain⟨z,its,n,r,hl,e⟩:=I.lstM hH
 refine call_meets F.slot_list_count ⟨_,e,rfl⟩ F.entry_list_count (F.args_list_count_2 _ _) (SeqAt.list_countAt l its.toArray n none #[] u (eqU y)) ⟨e,fun w hw=>fX ru fy r fs w (by simpa using hw),?_⟩
 refine⟨.int _,H,I.tok _,⟨s.toks,?_⟩,q⟩
 rw[show its.toArray.toList=its by simp,nY r fs]
end
end L2
namespace L2
open PySem PySem.Spec PyProof.Rows
theorem Inv.turned2{X:Cx}{pins:List (Addr×Obj)}{σ:St}{H:Hp}{s:Shared}{h':Heap}{e it p:Addr}{t':Nat}{xs:List V}{its:List Value}(I:Inv X pins σ H s)(fe:FpOk X pins H e)(fi:FpOk X pins H it)(k:∀b o,b≠e→b≠it→s.heap.get? b=some o→h'.get? b=some o)(ke:∃o,h'.get? e=some o)(ki:∃o,h'.get? it=some o)(hp:s.heap.objs.size≤p)(hl:xs.length≤sizeLine)(r:Vals xs its)(ht:h'.get? p=some { cls:=.type "tuple",data:=.seq its.toArray }):Inv X pins σ (upd H p (.tup xs)) { s with heap:=h',toks:=t' }:=by
 have hn:=I.hok.fresh hp
 obtain⟨e0,e1,e2,e3,e4,e5⟩:=fe
 obtain⟨i0,i1,i2,i3,i4,i5⟩:=fi
 have ne:∀b o,s.heap.get? b=some o→b≠p:=fun b o q=>Nat.ne_of_lt (Nat.lt_of_lt_of_le (Heap.lt_size q) hp)
 have keepN:∀b o,H b=some o→b≠e∧b≠it:=fun b o q=>⟨(fun z=>by rw[z,e0] at q;cases q),(fun z=>by rw[z,i0] at q;cases q)⟩
 refine I.step (g':=s.gens) (d':=s.drawn) (ch:=[e,it]) (fun b hb=>?_) (fun b o _ _ hb q _=>?_) (fun b o _ _ hb q _=>⟨o.slots,?_⟩) (fun b o hb q n=>by rw[aH (ne b o q)];exact n) (fun b o hb q=>⟨o,?_⟩)
  (fun b ys q=>by rw[aH (aG q hn)];exact q) (fun b o u q=>by rw[aH (aG q hn)];exact q) (fun b ps q=>⟨#[],by rw[aH (aG q hn),q];simp⟩) (fun m hm=>?_) (fun b o q=>?_) I.bare
 ·rcases List.mem_cons.mp hb with rfl|hb
  ·exact⟨e3,e1,e4,e5⟩
  ·rw[List.mem_singleton.mp hb];exact⟨i3,i1,i4,i5⟩
 ·exact k b o (fun z=>hb (z ▸ List.mem_cons_self)) (fun z=>hb (z ▸ List.mem_cons_of_mem _ List.mem_cons_self)) q
 ·exact k b o (fun z=>hb (z ▸ List.mem_cons_self)) (fun z=>hb (z ▸ List.mem_cons_of_mem _ List.mem_cons_self)) q
 ·exact k b o (fun z=>hb (z ▸ List.mem_cons_self)) (fun z=>hb (z ▸ List.mem_cons_of_mem _ List.mem_cons_self)) q
 ·obtain⟨o,es,ep,q,d,r'⟩:=hm
  exact⟨o,es,ep,k _ _ e1.symm i1.symm q,d,r'⟩
 ·by_cases hb:b=p
  ·subst hb
   rw[aB] at q;cases q
   exact⟨hl,its,r,_,ht,rfl,_,rfl,rfl⟩
  ·rw[aH hb] at q
   refine(I.hok b o q).stay (fun c u hc z=>k c u ?_ ?_ z) (fun c z=>by rw[aH (aG z hn)];exact z) fun c ys z=>by rw[aH (aG z hn)];exact z
   ·rcases hc with rfl|hc
    ·exact(keepN _ _ q).1
    ·exact(keepN _ _ hc).1
   ·rcases hc with rfl|hc
    ·exact(keepN _ _ q).2
    ·exact(keepN _ _ hc).2
end L2
namespace L2
open PySem PySem.Spec PyProof.Rows
section
variable {X:Cx}
end
end L2
namespace L2
open PySem PySem.Spec PyProof.Rows
section
variable {prog:Program} {w:World} {A:Around} {E:Value→Shared→Prop} {s:Shared}
theorem yQ{it t:Addr}{i:Nat}{xs:Array Value}{x:Value}{Q:Value→Shared→Prop}(hit:s.heap.IsTupleIter it t i)(ht:s.heap.IsTuple t xs)(hx:xs[i]?=some x)(q:∀h',h'.IsTupleIter it t (i+1)→Heap.SameBut it s.heap h'→Q x { s with heap:=h' }):wpAny (model prog w) A (Builtin.SmallTypes.nextOf (.ref it)) Q E s:=by
 obtain⟨o,h1,h2,h3⟩:=id hit
 obtain⟨p,k1,_,n,k3⟩:=ht
 unfold Builtin.SmallTypes.nextOf
 refine wpAny_bind (wpAny_callSpecial?_slot (name:=Str.ofString "__next__") hit.typeIs F.slot_tuple_iterator_next (wpAny_call_entry F.slot_tuple_iterator_next hit.typeIs F.entry_tuple_iterator_next ?_ (F.args_tuple_iterator_next_1 _)))
 change wpAny _ _ (field (.ref it) 0 >>= _) _ _ s
 refine wpAny_bind (wpAny_field h1 h3 (x:=.ref t) rfl ?_)
 change wpAny _ _ (if (Value.ref t==Value.none)=true then _ else _) _ _ s
 rw[if_neg (by exact Bool.false_ne_true)]
 change wpAny _ _ (field (.ref it) 1 >>= _) _ _ s
 refine wpAny_bind (wpAny_field h1 h3 (x:=.int i 0) rfl ?_)
 change wpAny _ _ (seqItems? (.ref t) >>= _) _ _ s
 refine wpAny_bind (wpAny_seqItems k1 k3 ?_)
 simp only[Int.toNat_natCast,hx]
 refine wpAny_bind (wpAny_setField h1 h3 (by simp) (wpAny_pure ⟨x,rfl,wpAny_pure (q _ ?_ (Heap.SameBut.update ..))⟩))
 refine⟨_,Heap.get?_update_self _ h1 (Obj.isFreed_of_fields (Obj.data_mapFields h3 _)),(Obj.cls_mapFields ..).trans h2,?_⟩
 rw[Obj.data_mapFields h3];simp[rawInt]
theorem qR{it t:Addr}{i:Nat}{xs:Array Value}{Q:Value→Shared→Prop}(hh:A.handled=none)(hit:s.heap.IsTupleIter it t i)(ht:s.heap.IsTuple t xs)(hx:xs[i]?=none)(q:∀h' e,Heap.ExtBut it s.heap h'→(∃o,h'.get? e=some o∧o.cls=.type "StopIteration")→E (.ref e) { s with heap:=h' }):wpAny (model prog w) A (Builtin.SmallTypes.nextOf (.ref it)) Q E s:=by
 obtain⟨o,h1,h2,h3⟩:=id hit
 obtain⟨p,k1,_,n,k3⟩:=ht
 unfold Builtin.SmallTypes.nextOf
 refine wpAny_bind (wpAny_callSpecial?_slot (name:=Str.ofString "__next__") hit.typeIs F.slot_tuple_iterator_next (wpAny_call_entry F.slot_tuple_iterator_next hit.typeIs F.entry_tuple_iterator_next ?_ (F.args_tuple_iterator_next_1 _)))
 change wpAny _ _ (field (.ref it) 0 >>= _) _ _ s
 refine wpAny_bind (wpAny_field h1 h3 (x:=.ref t) rfl ?_)
 change wpAny _ _ (if (Value.ref t==Value.none)=true then _ else _) _ _ s
 rw[if_neg (by exact Bool.false_ne_true)]
 change wpAny _ _ (field (.ref it) 1 >>= _) _ _ s
 refine wpAny_bind (wpAny_field h1 h3 (x:=.int i 0) rfl ?_)
 change wpAny _ _ (seqItems? (.ref t) >>= _) _ _ s
 refine wpAny_bind (wpAny_seqItems k1 k3 ?_)
 simp only[Int.toNat_natCast,hx]
 refine wpAny_bind (wpAny_rule (wpAny_bind (wpAny_setField h1 h3 (by simp) ?stop)))
 case stop=>
  change wpAny _ _ (newExc (.type "StopIteration") [] >>= _) _ _ _
  refine wpAny_bind ?_
  simp only[newExc,newTuple]
  refine wpAny_bind (wpAny_newObj_type (wpAny_bind (m:=firstArgMember _ _) (wpAny_of_eq (a:=Value.none) (by simp only[firstArgMember];rfl) (wpAny_newObj_type ?_ (by size_fits)))) (by size_fits))
  simp only[raiseNew]
  refine wpAny_bind (wpAny_handled ?_)
  rw[show A.in1.handled=none from hh]
  exact wpAny_bind (wpAny_pure (wpAny_throw (q _ _ (fun b u hb z=>Heap.get?_push_of_some _ (Heap.get?_push_of_some _ ((Heap.get?_update_other _ _ (Ne.symm hb)).trans z))) ⟨_,Heap.get?_push_size _ rfl,rfl⟩)))
theorem vS(hh:A.handled=none)(it t:Addr)(hne:t≠it)(xs:Array Value):Draws prog w A it [it,t] xs.size (fun i v=>xs[i]?=some v) (fun i h=>h.IsTupleIter it t i∧h.IsTuple t xs) where
 live:=fun _ _ st=>let ⟨o,ho,_⟩:=st.1;⟨o,ho⟩
 frame:=fun _ _ _ st hk=>⟨st.1.at fun o e=>hk it (by simp) o e,let ⟨o,e,r⟩:=st.2;⟨o,hk t (by simp) o e,r⟩⟩
 item:=fun i s Q E hi st q=>by
  refine yQ st.1 st.2 (x:=xs[i]) (by simp[hi]) fun h' a b=>?_
  obtain⟨o,e,r⟩:=st.2
  exact q _ h' s.toks (by simp[hi]) ⟨a,o,(b.2 t hne).trans e,r⟩ b
 done:=fun s Q E st q=>qR hh st.1 st.2 (by simp) q
end
end L2
namespace L2
open PySem PySem.Spec PyProof.Rows
theorem aAV (t : Addr) (xs : Array Value) :
    Meets (Builtin.«enumerate.__new__» ⟨[.type "enumerate", .ref t], []⟩) (fun _ R s => s.heap.IsTuple t xs ∧
      R (.ok (.ret (.ref (s.heap.push { cls := .type "tuple_iterator", data := .fields #[.ref t, .int 0 0] }).objs.size)))
        { s with heap := (s.heap.push { cls := .type "tuple_iterator", data := .fields #[.ref t, .int 0 0] }).push { cls := .type "enumerate", data := .fields #[.none, .bool false, .ref s.heap.objs.size, rawInt 0, .none, .none] } }) :=
  .of_wp fun prog w A R s h => by
    obtain ⟨hp, g, d, tk, os⟩ := s
    obtain ⟨hT, h⟩ := h
    have hs := sub_enumerate
    wp_walk
    refine wpAny_stack_any fun st => wpAny_pure ?_
    split
    · rename_i c _ _ _ _ _
      cases (c == Value.type "enumerate") <;> · wp_walk using wpAny_pyIter_tuple hT
                                                exact ⟨_, rfl, h⟩
    · wp_walk using wpAny_pyIter_tuple hT
      exact ⟨_, rfl, h⟩
theorem yR{prog:Program}{w:World}{A:Around}{E:Value→Shared→Prop}{s:Shared}{t:Addr}{xs:Array Value}{Q:Value→Shared→Prop}(ht:s.heap.IsTuple t xs)(h:∀h',IsEnum h' (s.heap.objs.size+1) s.heap.objs.size 0 .none→h'.IsTupleIter s.heap.objs.size t 0→(∀b o,s.heap.get? b=some o→h'.get? b=some o)→Q (.ref (s.heap.objs.size+1)) { s with heap:=h' }):
  wpAny (model prog w) A (call (.type "enumerate") [.ref t]) Q E s:=by
 refine callType_new F.called_enumerate (by decide) (F.typeCall_enumerate_1 _) (F.newCall_enumerate_1 _) (fun obj=>F.args_object_init_2 obj _) F.entry_enumerate_new (aAV t xs) ⟨ht,?_⟩
 have hz:(s.heap.push { cls:=.type "tuple_iterator",data:=.fields #[.ref t,.int 0 0] }).objs.size=s.heap.objs.size+1:=Heap.size_push ..
 have he:IsEnum ((s.heap.push { cls:=.type "tuple_iterator",data:=.fields #[.ref t,.int 0 0] }).push
   { cls:=.type "enumerate",data:=.fields #[.none,.bool false,.ref s.heap.objs.size,rawInt 0,.none,.none] }) (s.heap.objs.size+1) s.heap.objs.size 0 .none:=by
  have q:=Heap.get?_push_size (s.heap.push { cls:=.type "tuple_iterator",data:=.fields #[.ref t,.int 0 0] }) (o:={ cls:=.type "enumerate",data:=.fields #[.none,.bool false,.ref s.heap.objs.size,rawInt 0,.none,.none] }) rfl
  rw[hz] at q;exact q
 show _∧_
 rw[hz]
 exact⟨⟨_,he,rfl⟩,h _ he ⟨_,Heap.get?_push_of_some _ (Heap.get?_push_size _ rfl),rfl,rfl⟩ fun b o x=>Heap.get?_push_of_some _ (Heap.get?_push_of_some _ x)⟩
def IteT(K:PySem.W.Frag)(a:Addr):It:=
 ⟨fun i H=>∃xs x,SqT K H a xs∧xs[i]?=some x,fun i H x H'=>∃p v,x=.ref p∧H p=none∧H'=upd H p (.tup [.int i,v])∧∀xs,SqT K H a xs→xs[i]?=some v,fun i H=>∃xs,SqT K H a xs∧xs.length≤i⟩
theorem yS{P:Program}{w:World}{K:PySem.W.Frag}{es:List Expr}{x1:Nat}{pos:Pos}(a e it:Addr)(hne:e≠it)(hae:a≠e)(hai:a≠it):
  Turn P w K (.Tuple es x1 pos) (IteT K a) [e,it] e (fun i h=>(∃old,IsEnum h e it (i:Int) old)∧h.IsTupleIter it a i) where
 mem:=by simp
 obj:=fun i h st b hb=>by
  obtain⟨⟨old,he⟩,⟨o,q,c,d⟩⟩:=st
  rcases List.mem_cons.mp hb with rfl|hb
  ·exact⟨_,he,fun v z=>by
    have z':Data.fields _=Data.cell v:=z
    cases z'⟩
  ·rw[List.mem_singleton.mp hb]
   exact⟨o,q,fun v z=>by rw[d] at z;cases z⟩
 keep:=fun i h h' st k=>by
  obtain⟨⟨old,he⟩,hi⟩:=st
  exact⟨⟨old,k e (by simp) _ he⟩,hi.at fun o q=>k it (by simp) o q⟩
 item:=by
  intro X hP hw hK hc i pins s σ H E I hf st hg
  subst hP hw hK
  obtain⟨xs,x,hq,hx⟩:=hg
  obtain⟨its,rv,p,hz⟩:=I.tuple hq
  obtain⟨u,hu,ru⟩:=rv.get hx
  obtain⟨⟨old,he⟩,hi⟩:=st
  have hlt:i<its.toArray.size:=by
   have:=(List.getElem?_eq_some_iff.mp hu).1
   simpa using this
  have D:=vS (prog:=X.prog) (w:=X.w) (A:=X.A.in1) (I.ok.hd hc) it a hai its.toArray
  refine wpAny_pyNext_enum_itemD D he ⟨hi,p⟩ hlt hne (by simp[hne,hae.symm]) fun u' h' tk hu' ho hst ht hsz k=>?_
  have eu:u'=u:=by
   have h1:its.toArray[i]?=some u:=by simpa using hu
   rw[h1] at hu'
   exact(Option.some.inj hu').symm
  subst eu
  refine⟨_,rfl,wpAny_letOwnedTupleGo_enum ho fun h2 he2 hs2=>?_⟩
  have hpe:s.heap.objs.size≠e:=Nat.ne_of_gt (Heap.lt_size he)
  have hi2:h2.IsTupleIter it a (i+1):=hst.1.at fun o q=>(hs2.2 it hne.symm).trans q
  have fe:=hf e (by simp)
  have fi:=hf it (by simp)
  have I2:Inv X pins σ (upd H s.heap.objs.size (.tup [.int i,x])) { s with heap:=h2,toks:=tk+1 }:=by
   refine I.turned2 (its:=[.int i tk,u']) fe fi (fun b o h1 h3 q=>(hs2.2 b h1).trans (k b o h1 h3 q)) ⟨_,he2⟩ ?_ (Nat.le_refl _) (by show 2≤sizeLine;decide) (.cons ⟨_,rfl⟩ (.cons ru .nil)) ((hs2.2 _ hpe).trans ht)
   obtain⟨o,q,_⟩:=hi2
   exact⟨o,q⟩
  refine⟨.ref s.heap.objs.size,_,I2,rfl,⟨_,x,rfl,I.hok.fresh (Nat.le_refl _),rfl,fun ys hy=>by rw[I.tuple_inj hy hq];exact hx⟩,⟨⟨u',he2⟩,hi2⟩,fun b hb=>?_⟩
  have f0:=(hf b hb).1
  rw[aH]
  ·exact f0
  ·rcases List.mem_cons.mp hb with rfl|hb
   ·exact hpe.symm
   ·rw[List.mem_singleton.mp hb]
    obtain⟨o,q,_⟩:=hi
    exact Nat.ne_of_lt (Heap.lt_size q)
 done:=by
  intro X hP hw hK hc i pins s σ H E I hf st hg
  subst hP hw hK
  obtain⟨xs,hq,hx⟩:=hg
  obtain⟨its,rv,p,hz⟩:=I.tuple hq
  obtain⟨f0,f1,f2,f3,f4,f5⟩:=hf it (by simp)
  obtain⟨⟨old,he⟩,hi⟩:=st
  have hl:=rv.length
  unfold pyNext
  have hT:s.TypeIs (.ref e) "enumerate":=⟨_,he,rfl⟩
  refine wpAny_bind (wpAny_attempt (wpAny_callSpecial?_slot (name:=Str.ofString "__next__") hT F.slot_enumerate_next (wpAny_call_entry F.slot_enumerate_next hT F.entry_enumerate_next ?_ (F.args_enumerate_next_1 _))))
  change wpAny _ _ (field (.ref e) 2 >>= _) _ _ _
  refine wpAny_bind (wpAny_field he rfl (x:=.ref it) rfl (wpAny_bind (qR (I.ok.hd hc) hi p (by simp;lia) fun h' x eb hx'=>?_)))
  obtain⟨o,ho,hcl⟩:=hx'
  exact wpAny_bind (wpAny_isInstance (T:="StopIteration") (b:=true) ⟨o,ho,hcl⟩ isSubtype_stop (wpAny_pure ⟨rfl,I.turned (t':=s.toks) (fun b o hb e=>eb b o hb e) f0 f1 f3 f4 f5⟩))
 self:=fun _ _ _ _ _ st h=>by
  obtain⟨⟨old,he⟩,_⟩:=st
  exact wpAny_pyIter_enum he h
end L2
namespace L2
open PySem PySem.Spec PyProof.Rows
section
variable {X:Cx}
def aD6(K:PySem.W.Frag)(ta:TA):TI:=fun σ H R=>ta σ H fun vs H1=>∃a xs,vs=[.ref a]∧SqT K H1 a xs∧R (IteT K a) H1
theorem tG{es:List Expr}{x1:Nat}{tpos:Pos}{a:Expr}{ta:TA}{p pos:Pos}(hg:Gl X "enumerate")(hm:X.mg "enumerate"=none)(ha:PA X [a] ta)(hs:starEach [a] X.env=[(false,eval a X.env)]:=by rfl):
  PI X (.Tuple es x1 tpos) (.Call (.Name "enumerate" p) [a] [] pos) (aD6 X.K ta):=by
 intro pins s σ H R I h
 refine Call_ (fF I hg hm (by decide +kernel:bootBuiltins "enumerate"=some (.type "enumerate")) (PyProof.Rows.callWith_type1 (thn (ha pos pins s σ H _ I h) fun us s1 ⟨vs,H1,I1,r1,q1⟩=>?_) hs rfl))
 obtain⟨l,xs,rfl,hl,q⟩:=q1
 obtain⟨u1,rfl,ru1⟩:=r1.one
 obtain rfl:u1=Value.ref l:=ru1
 obtain⟨its,rv,pt,hz⟩:=I1.tuple hl
 have hlt:l<s1.heap.objs.size:=by obtain⟨o,e,_⟩:=pt;exact Heap.lt_size e
 refine yR (show s1.heap.IsTuple l its.toArray from pt) fun h' he hi k=>?_
 have hne:s1.heap.objs.size+1≠s1.heap.objs.size:=Nat.succ_ne_self _
 refine wpAny_pyIter_enum he ?_
 have I2:Inv X pins σ H1 { s1 with heap:=h' }:=I1.kept (t':=s1.toks) k
 refine⟨s1.heap.objs.size+1,[s1.heap.objs.size+1,s1.heap.objs.size],_,_,H1,rfl,I2,yS l _ _ hne (Nat.ne_of_lt (Nat.lt_succ_of_lt hlt)) (Nat.ne_of_lt hlt),⟨⟨_,he⟩,hi⟩,fun b hb=>?_,q⟩
 have hb':s1.heap.objs.size≤b:=by
  rcases List.mem_cons.mp hb with rfl|hb
  ·exact Nat.le_succ _
  ·rw[List.mem_singleton.mp hb];exact Nat.le_refl _
 exact I1.fpOk hb' (I1.hok.fresh hb')
theorem nZ{K:PySem.W.Frag}{a D:Addr}{xs:List V}{g:TG}{tt:TT}{te:TE}{fin:Hp→Prop}{σB:St}{H0:Hp}(Pv:Nat→List V→St→Hp→Prop)(h0:Pv 0 [] σB H0)(hl:∀i ys σ H,i≤xs.length→Pv i ys σ H→SqT K H a xs)(hs:∀i x p ys σ H (Kt:V→St→Hp→Prop) (Kf:St→Hp→Prop),xs[i]?=some x→Pv i ys σ H→H p=none→
   (∀v σ2 H4,H4 D=some (.lst ys)→ys.length<sizeLine→Pv (i+1) (ys++[v]) σ2 (upd H4 D (.lst (ys++[v])))→Kt v σ2 H4)→(∀σ2 H3,Pv (i+1) ys σ2 H3→Kf σ2 H3)→
   g (.ref p) σ (upd H p (.tup [.int i,x])) fun σ2 H2=>tt σ2 H2 fun b H3=>if b=true then te σ2 H3 fun v H4=>Kt v σ2 H4 else Kf σ2 H3)(hd:∀ys σ H,Pv xs.length ys σ H→fin H):dP (IteT K a) g tt te D fin σB H0:=by
 refine⟨fun i m σ H=>m=xs.length-i∧i≤xs.length∧∃ys,Pv i ys σ H,⟨xs.length,by simp,Nat.zero_le _,[],h0⟩,?_⟩
 rintro i m σ H ⟨rfl,hi,ys,p⟩
 have q:=hl i ys σ H hi p
 by_cases hlt:i<xs.length
 ·refine .inr ⟨⟨xs,xs[i],q,by simp[hlt]⟩,?_⟩
  rintro x H' ⟨pp,v,rfl,hn,rfl,hv⟩
  exact hs i v pp ys σ _ (fun v σ2 H4=>∃ys,H4 D=some (.lst ys)∧ys.length<sizeLine∧∃m',m'<xs.length-i∧m'=xs.length-(i+1)∧i+1≤xs.length∧∃ys',Pv (i+1) ys' σ2 (upd H4 D (.lst (ys++[v]))))
   (fun σ2 H3=>∃m',m'<xs.length-i∧m'=xs.length-(i+1)∧i+1≤xs.length∧∃ys',Pv (i+1) ys' σ2 H3) (hv xs q) p hn
   (fun v σ2 H4 z1 z2 z3=>⟨ys,z1,z2,_,by lia,rfl,hlt,_,z3⟩) (fun σ2 H3 z=>⟨_,by lia,rfl,hlt,_,z⟩)
 ·have e:i=xs.length:=by lia
  subst e
  exact .inl ⟨⟨xs,q,Nat.le_refl _⟩,hd ys σ H p⟩
end
end L2
namespace L2
open PySem PySem.Spec PyProof.Rows
section
variable {X:Cx} {tg:Expr}
end
end L2
namespace L2
open PySem PySem.Spec PyProof.Rows
theorem tH:typeLookup (.type "list") "keys"=pure none:=by rw[typeLookup_type,builtinLookup_eq_fast];kernel_rfl
theorem oA:typeLookup (.type "list") "__getattr__"=pure none:=by rw[typeLookup_type,builtinLookup_eq_fast];kernel_rfl
theorem pG(l:Addr)(u:Tok)(items:Array Value)(n:Nat):
  Meets (Builtin.«object.__getattribute__» ⟨[.ref l,.str "keys" u],[]⟩) (fun A R s=>s.heap.get? l=some { cls:=.type "list",data:=.seq items n }∧raisesAttr (.ref l) "keys" A R s):=
 Meets.of_wp fun prog w A R s hs=>by
  obtain⟨hp,g,d,tk,os⟩:=s
  obtain⟨hl,hs⟩:=hs
  have hT:(⟨hp,g,d,tk,os⟩:Shared).TypeIs (.ref l) "list":=⟨_,hl,rfl⟩
  have f1:=tH
  unfold Builtin.«object.__getattribute__»
  repeat (any_goals (first|assumption|wp_step))
  exact wpAny_raiseAttrError hs.1 hs.2 (attrMsg_fits (by decide +kernel) (by decide +kernel))
theorem aD7{prog:Program}{w:World}{A:Around}{E:Value→Shared→Prop}{s:Shared}{l:Addr}{items:Array Value}{n:Nat}{Q:Option Value→Shared→Prop}(hA:A.handled=none)(hl:s.heap.get? l=some { cls:=.type "list",data:=.seq items n })(h:∀h' tk,(∀b o,s.heap.get? b=some o→h'.get? b=some o)→Q none { s with heap:=h',toks:=tk }):wpAny (model prog w) A (getAttr? (.ref l) "keys") Q E s:=by
 obtain⟨hp,g,d,tk,os⟩:=s
 have hT:∀tk,(⟨hp,g,d,tk,os⟩:Shared).TypeIs (.ref l) "list":=fun _=>⟨_,hl,rfl⟩
 have f1:=sub_AttributeError
 have f3:=F.slot_list_getattribute.lookup
 have f4:=F.slot_list_getattribute.bind (.ref l)
 have f5:=oA
 unfold getAttr? getAttrBy?
 refine wpAny_bind (wpAny_mkText ?_)
 refine wpAny_bind (wpAny_attempt ?_)
 unfold getAttrBy
 repeat (any_goals (first|assumption|((with_reducible show wpAny _ _ (call (Value.builtin "list.__getattribute__") _ _) _ _ _);refine call_meets F.slot_list_getattribute (hT _) F.entry_list_ga (F.args_list_getattribute_2 _ _) (pG l _ items n) ⟨hl,hA,fun h' tk' e hx=>?_⟩)|wp_step))
 obtain⟨t',u',he⟩:=hx.there
 show wpAny _ _ (getattributeRaised _ _ _ _ _ _ _) _ _ _
 unfold getattributeRaised
 repeat (any_goals (first|assumption|wp_step))
 exact h _ _ hx.keeps
end L2
namespace L2
open PySem PySem.Spec PyProof.Rows
theorem mN:entryFor table "dict.update.loop"=some Builtin.«dict.update.loop»:=entryFor_of_tree (by kernel_rfl)
theorem gK:plainId "dict.update.loop"=true:=by decide +kernel
section
variable {prog:Program} {w:World} {A:Around} {E:Value→Shared→Prop} {s:Shared} {R:Result→Shared→Prop} {l d Ia:Addr}
end
end L2
namespace L2
open PySem PySem.Spec PyProof.Rows
section
variable {prog:Program} {w:World} {A:Around} {E:Value→Shared→Prop} {s:Shared} {l:Addr}
end
end L2
namespace L2
open PySem PySem.Spec PyProof.Rows
section
variable {X:Cx}
end
end L2
namespace L2
open PySem PySem.Spec PyProof.Rows
section
variable {X:Cx}
end
end L2
namespace L2
open PySem PySem.Spec PyProof.Rows
structure Cal(P:Program)(w:World)(K:PySem.W.Frag)(mg:Str→Option Value)(base:Heap)(CX:CXT)(k:Nat)(x:Str)(ps:List Str)(sp:Sp):Prop where
 ex:∃f fd,mg x=some (.ref f)∧PySem.W.keepIn K (.ref f)=true∧fL K fd ps []∧FnOk P w K mg base CX k f fd ps sp
theorem aN{X:Cx}{CX:CXT}{k:Nat}{x:Str}{ps:List Str}{sp:Sp}{E:XK}{e:Expr}{es:List Expr}{t:TA}{p pos:Pos}(C:Cal X.prog X.w X.K X.mg X.base CX k x ps sp)(hr:Room k X.A)(hx:iM CX X E)(ha:PA X (e::es) t)(hg:Gl X x:=by rfl)(hdb:(x==("__debug__":Str))=false:=by decide)(he:starEach (e::es) X.env=(false,eval e X.env)::starEach es X.env:=by rfl)(hpl:(backTo pos (starEach es X.env)).any (·.1)=false:=by rfl):
  PE X (.Call (.Name x p) (e::es) [] pos) (lQ sp [] E t):=by
 obtain⟨f,fd,a,b,c,d⟩:=C.ex
 exact aCJ d hr hg a b c .nil hx ha hdb he hpl
theorem aE{H:Hp}{D:Addr}{o:HO}(h:H D=none):Same H (upd H D o):=fun b u e=>by rw[aH (aG e h)];exact e
def aO(p:Addr)(H H':Hp):Prop:=∀b o,H b=some o→b≠p→H' b=some o
theorem aO.refl{p:Addr}{H:Hp}:aO p H H:=fun _ _ h _=>h
theorem aO.trans{p:Addr}{H H1 H2:Hp}(a:aO p H H1)(b:aO p H1 H2):aO p H H2:=fun c o h n=>b c o (a c o h n) n
theorem aO.upd{p:Addr}{H:Hp}{o:HO}:aO p H (upd H p o):=fun b u h n=>by rw[aH n];exact h
theorem aO.of{p:Addr}{H H':Hp}(s:Same H H'):aO p H H':=fun b o h _=>s b o h
theorem aO.free{p q:Addr}{H H':Hp}(s:aO p H H')(hp:H' p≠none)(h:H' q=none):H q=none:=by
 cases z:H q with
 |none=>rfl
 |some o=>
  by_cases e:q=p
  ·subst e;exact absurd h hp
  ·rw[s q o z e] at h;cases h
theorem cV{n j:Nat}(h:j<n):ixN n (j:Int)=some j:=by
 unfold ixN
 rw[if_pos (by lia),if_pos (by lia)]
 simp
theorem aAW{as:List Addr}{t:Addr}{j n:Nat}(h:as.length=n):(as++[t]).getD j 0=if j=n then t else as.getD j 0:=by
 rw[List.getD_eq_getElem?_getD,List.getD_eq_getElem?_getD]
 by_cases hj:j=n
 ·subst hj;subst h
  rw[if_pos rfl,List.getElem?_append_right (Nat.le_refl _),Nat.sub_self];rfl
 ·rw[if_neg hj]
  by_cases hlt:j<as.length
  ·rw[List.getElem?_append_left hlt]
  ·rw[List.getElem?_append_right (by lia),List.getElem?_eq_none (by simp;lia),List.getElem?_eq_none (by lia)]
def Holds(H:Hp)(as:List Addr)(n:Nat)(o:Nat→HO):Prop:=as.length=n∧∀j,j<n→H (as.getD j 0)=some (o j)
theorem Holds.nil{H:Hp}{o:Nat→HO}:Holds H [] 0 o:=⟨rfl,fun j hj=>absurd hj (by lia)⟩
theorem Holds.snoc{H:Hp}{as:List Addr}{n:Nat}{o:Nat→HO}{t:Addr}(h:Holds H as n o)(ht:H t=some (o n)):Holds H (as++[t]) (n+1) o:=by
 refine⟨by rw[List.length_append,h.1];rfl,fun j hj=>?_⟩
 rw[aAW h.1]
 by_cases e:j=n
 ·rw[if_pos e,e];exact ht
 ·rw[if_neg e];exact h.2 j (by lia)
theorem Holds.mono{H H':Hp}{as:List Addr}{n:Nat}{o:Nat→HO}(h:Holds H as n o)(e:∀j,j<n→H (as.getD j 0)=some (o j)→H' (as.getD j 0)=some (o j)):Holds H' as n o:=⟨h.1,fun j hj=>e j hj (h.2 j hj)⟩
end L2
namespace PyProof.Rows
open PySem
def dG:Bool→Keyed→Array Keyed→Nat→Nat→Nat→StateT SortSt Sem (Option Nat):=sortPriv% PySem.Builtin.gallop
def mX:Array Keyed→Array Keyed→StateT SortSt Sem (Array Keyed):=sortPriv% PySem.Builtin.mergeLo
def mY:Array Keyed→Array Keyed→StateT SortSt Sem (Array Keyed):=sortPriv% PySem.Builtin.mergeHi
def cW:Nat→StateT SortSt Sem Unit:=sortPriv% PySem.Builtin.setMinGallop
def Cmp(prog:Program)(w:World)(A:Around)(s:Shared)(κ:SortKind)(a₀:Array Keyed)(key:Keyed→Int):Prop:=
 ∀x y,x∈a₀.toList→y∈a₀.toList→∀ (Q:Bool→Shared→Prop) (E:Value→Shared→Prop),Q (decide (key x<key y)) s→wpAny (model prog w) A (keyLt' κ x.1 y.1) Q E s
structure SQ(κ:SortKind)(a₀:Array Keyed)(pd:Array (Nat×Nat×Nat))(st:SortSt):Prop where
 perm:(arrOf st).Perm a₀
 kind:kindOf st=κ
 failed:failedOf st=none
 pend:pendingOf st=pd
def kk(key:Keyed→Int)(a:Array Keyed)(i:Nat):Int:=(a[i]?.map key).getD 0
def So(key:Keyed→Int)(a:Array Keyed)(lo hi:Nat):Prop:=∀i j,lo≤i→i≤j→j<hi→kk key a i≤kk key a j
def Out(a b:Array Keyed)(lo hi:Nat):Prop:=∀k,k<lo∨hi≤k→b[k]?=a[k]?
theorem Out.refl{a:Array Keyed}{lo hi:Nat}:Out a a lo hi:=fun _ _=>rfl
theorem Out.trans{a b c:Array Keyed}{lo hi:Nat}(x:Out a b lo hi)(y:Out b c lo hi):Out a c lo hi:=fun k h=>(y k h).trans (x k h)
theorem Out.wide{a b:Array Keyed}{lo hi lo' hi':Nat}(x:Out a b lo hi)(h1:lo'≤lo)(h2:hi≤hi'):Out a b lo' hi':=fun k h=>x k (by lia)
theorem cI{key:Keyed→Int}{a:Array Keyed}{i:Nat}(h:i<a.size):kk key a i=key a[i]:=by unfold kk;rw[getElem?_pos a i h];rfl
theorem eK{key:Keyed→Int}{a b:Array Keyed}{i j:Nat}(h:a[i]?=b[j]?):kk key a i=kk key b j:=by unfold kk;rw[h]
section
variable {prog:Program} {w:World} {A:Around} {E:Value→Shared→Prop} {s:Shared} {κ:SortKind} {a₀:Array Keyed} {pd:Array (Nat×Nat×Nat)} {key:Keyed→Int}
theorem SQ.size{st:SortSt}(h:SQ κ a₀ pd st):(arrOf st).size=a₀.size:=h.perm.size_eq
theorem SQ.setArr{st:SortSt}(h:SQ κ a₀ pd st){xs:Array Keyed}(hp:xs.Perm (arrOf st)):SQ κ a₀ pd (setArr st xs):=⟨hp.trans h.perm,h.kind,h.failed,h.pend⟩
theorem SQ.at{st:SortSt}(h:SQ κ a₀ pd st){i:Nat}(hi:i<a₀.size):∃p,(arrOf st)[i]?=some p∧p∈a₀.toList:=by
 have hi':i<(arrOf st).size:=by rw[h.size];exact hi
 exact⟨(arrOf st)[i],getElem?_pos _ i hi',(Array.perm_iff_toList_perm.mp h.perm).mem_iff.mp (by simp)⟩
theorem kZ{st:SortSt}{x y:Keyed}{Q:Option Bool→SortSt→Prop}(hC:Cmp prog w A s κ a₀ key)(hk:kindOf st=κ)(hx:x∈a₀.toList)(hy:y∈a₀.toList)(h:Q (some (decide (key x<key y))) st):wpS (model prog w) A E s (lt' x y) Q st:=by
 rw[lt'_eq]
 refine wpS_bind (wpS_get ?_)
 rw[hk]
 refine wpS_bind (wpS_lift (wpAny_attempt (hC x y hx hy _ _ ⟨rfl,?_⟩)))
 exact wpS_pure h
theorem bK{st:SortSt}{arr:Array Keyed}{i:Nat}{p:Keyed}{Q:Keyed→SortSt→Prop}(hi:arr[i]?=some p)(h:Q p st):wpS (model prog w) A E s (elem' arr i) Q st:=by
 rw[elem'_eq,hi]
 exact wpS_pure h
theorem jL{st:SortSt}{i j:Nat}{Q:Option Bool→SortSt→Prop}(hC:Cmp prog w A s κ a₀ key)(hB:SQ κ a₀ pd st)(hi:i<a₀.size)(hj:j<a₀.size)(h:∀b,b=decide (kk key (arrOf st) i<kk key (arrOf st) j)→Q (some b) st):wpS (model prog w) A E s (ltAt' i j) Q st:=by
 obtain⟨p,e1,m1⟩:=hB.at hi
 obtain⟨q,e2,m2⟩:=hB.at hj
 rw[ltAt'_eq]
 refine wpS_bind (wpS_get ?_)
 refine wpS_bind (bK e1 (wpS_bind (bK e2 (kZ hC hB.kind m1 m2 (h _ ?_)))))
 unfold kk
 rw[e1,e2];rfl
theorem lU{st:SortSt}{i j:Nat}{Q:Unit→SortSt→Prop}(hB:SQ κ a₀ pd st)(hj:j≤a₀.size)(h:∀st',SQ κ a₀ pd st'→(∀k,(arrOf st')[k]?=if i≤k∧k<j then (arrOf st)[i+j-1-k]? else (arrOf st)[k]?)→Q () st'):wpS (model prog w) A E s (reverseSlice' i j) Q st:=by
 rw[reverseSlice'_eq]
 exact wpS_modify (h _ (hB.setArr (mirror_perm _ _ _ _)) (getElem?_mirror_all (by rw[hB.size];exact hj)))
theorem aBR{st:SortSt}{i j:Nat}{Q:Unit→SortSt→Prop}(hB:SQ κ a₀ pd st)(hi:i<a₀.size)(hj:j≤i)(h:∀st',SQ κ a₀ pd st'→(∀k,(arrOf st')[k]?=if k=j then (arrOf st)[i]? else if j<k∧k≤i then (arrOf st)[k-1]? else (arrOf st)[k]?)→Q () st'):wpS (model prog w) A E s (moveDown' i j) Q st:=by
 rw[moveDown'_eq]
 refine wpS_modify (h _ (hB.setArr (bubble_perm _ _ _)) fun k=>?_)
 have:=getElem?_bubble (xs:=arrOf st) (src:=i) (by rw[hB.size];exact hi) (i-j) (by lia) k
 rw[show i-(i-j)=j by lia] at this
 exact this
theorem aCX{st:SortSt}{lo n ok:Nat}{Q:Bool→SortSt→Prop}(hC:Cmp prog w A s κ a₀ key)(hn:lo+n≤a₀.size)(hok:ok≤n)(hB:SQ κ a₀ pd st)(hs:So key (arrOf st) lo (lo+ok))(h:∀st',SQ κ a₀ pd st'→So key (arrOf st') lo (lo+n)→Out (arrOf st) (arrOf st') lo (lo+n)→Q true st'):wpS (model prog w) A E s (binarySort' lo n ok) Q st:=by
  rw[binarySort'_eq]
  refine wpS_bind (wpS_mono (wpS_forRange (I:=fun k c st'=>c=(none,())∧SQ κ a₀ pd st'∧So key (arrOf st') lo (lo+k)∧Out (arrOf st) (arrOf st') lo (lo+n)) (Q:=fun c st'=>c=(none,())∧SQ κ a₀ pd st'∧So key (arrOf st') lo (lo+n)∧Out (arrOf st) (arrOf st') lo (lo+n)) ?_ (fun c st' hh=>⟨hh.1,hh.2.1,fun i j h1 h2 h3=>hh.2.2.1 i j h1 h2 (by lia),hh.2.2.2⟩) ⟨rfl,hB,fun i j h1 h2 h3=>?_,Out.refl⟩) ?_)
  · rintro k c st' hk1 hk2 ⟨rfl,hB',so,ou⟩
    dsimp only
    refine wpS_bind (wpS_mono (wpS_forRange (I:=fun x c st''=>(∃l r,c=(none,l,r)∧l≤r∧r≤k∧r≤l+(k-x)∧(∀i,i<l→kk key (arrOf st') (lo+i)≤kk key (arrOf st') (lo+k))∧(∀i,r≤i→i<k→kk key (arrOf st') (lo+k)≤kk key (arrOf st') (lo+i)))∧st''=st') (Q:=fun c st''=>(∃l r,c=(none,l,r)∧l≤k∧(∀i,i<l→kk key (arrOf st') (lo+i)≤kk key (arrOf st') (lo+k))∧(∀i,l≤i→i<k→kk key (arrOf st') (lo+k)≤kk key (arrOf st') (lo+i)))∧st''=st') ?_ ?_ ⟨⟨_,_,rfl,Nat.zero_le _,Nat.le_refl _,by lia,fun i h=>by lia,fun i h h'=>by lia⟩,rfl⟩) ?_)
    · rintro x c st2 _ hx ⟨⟨l,r,rfl,hlr',hr,hrl,f1,f2⟩,rfl⟩
      dsimp only
      by_cases hlr:l≥r
      · rw[if_pos hlr]
        exact wpS_pure ⟨⟨_,_,rfl,by lia,f1,fun i hi hi'=>f2 i (by lia) hi'⟩,rfl⟩
      · rw[if_neg hlr]
        refine wpS_bind (jL hC hB' (by lia) (by lia) fun b eb=>?_)
        cases b
        · have e:=of_decide_eq_false eb.symm
          refine wpS_pure ⟨⟨_,_,rfl,by lia,hr,by lia,fun i hi=>?_,f2⟩,rfl⟩
          have:=so (lo+i) (lo+(l+r) / 2) (by lia) (by lia) (by lia)
          lia
        · have e:=of_decide_eq_true eb.symm
          refine wpS_pure ⟨⟨_,_,rfl,by lia,by lia,by lia,f1,fun i hi hi'=>?_⟩,rfl⟩
          have:=so (lo+(l+r) / 2) (lo+i) (by lia) (by lia) (by lia)
          lia
    · rintro c st2 ⟨⟨l,r,rfl,hlr',hr,hrl,f1,f2⟩,rfl⟩
      exact⟨⟨_,_,rfl,by lia,f1,fun i hi hi'=>f2 i (by lia) hi'⟩,rfl⟩
    · rintro c st2 ⟨⟨l,r,rfl,hl,f1,f2⟩,rfl⟩
      dsimp only
      refine wpS_bind (aBR hB' (by lia) (by lia) fun st3 hB3 hg=>wpS_pure ⟨rfl,hB3,fun i j h1 h2 h3=>?_,fun q hq=>?_⟩)
      · have gi:=hg i
        have gj:=hg j
        have ei:kk key (arrOf st3) i=if i=lo+l then kk key (arrOf st2) (lo+k) else if lo+l<i∧i≤lo+k then kk key (arrOf st2) (i-1) else kk key (arrOf st2) i:=by
          unfold kk;rw[gi];split
          · rfl
          · split <;> rfl
        have ej:kk key (arrOf st3) j=if j=lo+l then kk key (arrOf st2) (lo+k) else if lo+l<j∧j≤lo+k then kk key (arrOf st2) (j-1) else kk key (arrOf st2) j:=by
          unfold kk;rw[gj];split
          · rfl
          · split <;> rfl
        rw[ei,ej]
        by_cases c1:i=lo+l
        · rw[if_pos c1]
          by_cases c2:j=lo+l
          · rw[if_pos c2];lia
          · rw[if_neg c2,if_pos (by lia)]
            have:=f2 (j-1-lo) (by lia) (by lia)
            rw[show lo+(j-1-lo)=j-1 by lia] at this
            exact this
        · rw[if_neg c1]
          by_cases c3:lo+l<i∧i≤lo+k
          · rw[if_pos c3,if_neg (by lia),if_pos (by lia)]
            exact so _ _ (by lia) (by lia) (by lia)
          · rw[if_neg c3]
            by_cases c2:j=lo+l
            · rw[if_pos c2]
              have:=f1 (i-lo) (by lia)
              rw[show lo+(i-lo)=i by lia] at this
              exact this
            · rw[if_neg c2]
              by_cases c4:lo+l<j∧j≤lo+k
              · rw[if_pos c4];exact so _ _ (by lia) (by lia) (by lia)
              · rw[if_neg c4];exact so _ _ (by lia) (by lia) (by lia)
      · rw[hg q,if_neg (by lia),if_neg (by lia)]
        exact ou q hq
  · by_cases ho:ok=0
    · have:i=j:=by subst ho;have:max 0 1=1:=rfl;lia
      rw[this];exact Int.le_refl _
    · exact hs i j h1 h2 (by have:max ok 1=ok:=by lia
                             lia)
  · rintro c st' ⟨rfl,hB',so,ou⟩
    exact wpS_pure (h st' hB' so ou)
end
end PyProof.Rows
namespace PyProof.Rows
open PySem
def finC(lo nrem n:Nat):StateT SortSt Sem (Option Nat):=do
 reverseSlice' lo (lo+n)
 let mut n:=n
 for _ in [n:nrem] do
  let some smaller ← ltAt' (lo+n) (lo+n-1)|return none
  if smaller then break
  n:=n+1
 return some n
def desC(lo nrem n:Nat):StateT SortSt Sem (Option Nat):=do
 rule "list.sort.descending-run"
 let mut n:=n+1
 let mut neq:=0
 for _ in [n:nrem] do
  let some smaller ← ltAt' (lo+n) (lo+n-1)|return none
  if smaller then
   if neq > 0 then reverseSlice' (lo+n-(neq+1)) (lo+n)
   neq:=0
  else
   let some larger ← ltAt' (lo+n-1) (lo+n)|return none
   if larger then break
   neq:=neq+1
  n:=n+1
 if neq > 0 then reverseSlice' (lo+n-(neq+1)) (lo+n)
 finC lo nrem n
theorem qZ(lo nrem:Nat):countRun' lo nrem=(do
 let mut n:=1
 for _ in [1:nrem] do
  let some smaller ← ltAt' (lo+n) (lo+n-1)|return none
  if smaller then break
  n:=n+1
 if n==nrem then return some n
 if n > 1 then
  let some rose ← ltAt' lo (lo+n-1)|return none
  if rose then return some n
  reverseSlice' lo (lo+n)
 desC lo nrem n):=rfl
section
variable {prog:Program} {w:World} {A:Around} {E:Value→Shared→Prop} {s:Shared} {κ:SortKind} {a₀:Array Keyed} {pd:Array (Nat×Nat×Nat)} {key:Keyed→Int} {ar:Array Keyed}
def De(key:Keyed→Int)(a:Array Keyed)(lo hi:Nat):Prop:=∀i j,lo≤i→i≤j→j<hi→kk key a j≤kk key a i
theorem tI{a b:Array Keyed}{i j:Nat}(h:∀k,b[k]?=if i≤k∧k<j then a[i+j-1-k]? else a[k]?)(k:Nat):kk key b k=if i≤k∧k<j then kk key a (i+j-1-k) else kk key a k:=by
 unfold kk;rw[h k];split <;> rfl
theorem lA{a b:Array Keyed}{i j:Nat}(h:∀k,b[k]?=if i≤k∧k<j then a[i+j-1-k]? else a[k]?)(e:∀k,i≤k→k<j→kk key a k=kk key a (j-1))(k:Nat):kk key b k=kk key a k:=by
 rw[tI h]
 split
 ·rename_i c;rw[e _ (by lia) (by lia),e k c.1 c.2]
 ·rfl
theorem lV{a b:Array Keyed}{i j lo hi:Nat}(h:∀k,b[k]?=if i≤k∧k<j then a[i+j-1-k]? else a[k]?)(h1:lo≤i)(h2:j≤hi):Out a b lo hi:=fun k hk=>by rw[h k,if_neg (by lia)]
theorem wQ{st:SortSt}{lo nrem n:Nat}{Q:Option (Option Nat)×Nat→SortSt→Prop}(hC:Cmp prog w A s κ a₀ key)(hn:lo+nrem≤a₀.size)(h1:1≤n)(h2:n≤nrem)(hB:SQ κ a₀ pd st)(so:So key (arrOf st) lo (lo+n))(h:∀m,n≤m→m≤nrem→So key (arrOf st) lo (lo+m)→(m=nrem∨kk key (arrOf st) (lo+m)<kk key (arrOf st) (lo+m-1))→Q (none,m) st):
  wpS (model prog w) A E s (forIn [n:nrem] ((none:Option (Option Nat)),n) fun _ r=>do
   let some smaller ← ltAt' (lo+r.2) (lo+r.2-1)|pure (ForInStep.done (some none,r.2))
   if smaller then pure (ForInStep.done (none,r.2)) else pure (ForInStep.yield (none,r.2+1))) Q st:=by
 refine wpS_mono (wpS_forRange (I:=fun i c st'=>st'=st∧c=(none,i)∧So key (arrOf st) lo (lo+i)) (Q:=fun c st'=>st'=st∧∃m,c=(none,m)∧n≤m∧m≤nrem∧So key (arrOf st) lo (lo+m)∧(m=nrem∨kk key (arrOf st) (lo+m)<kk key (arrOf st) (lo+m-1))) ?_ ?_ ⟨rfl,rfl,so⟩) ?_
 ·rintro i c st1 hi1 hi2 ⟨rfl,rfl,so1⟩
  dsimp only
  refine wpS_bind (jL hC hB (by lia) (by lia) fun b eb=>?_)
  cases b
  ·have e:=of_decide_eq_false eb.symm
   refine wpS_pure ⟨rfl,rfl,fun x y hx hxy hy=>?_⟩
   by_cases c1:y<lo+i
   ·exact so1 x y hx hxy c1
   ·have:y=lo+i:=by lia
    subst this
    by_cases c2:x=lo+i
    ·rw[c2];lia
    ·have:=so1 x (lo+i-1) hx (by lia) (by lia)
     lia
  ·exact wpS_pure ⟨rfl,_,rfl,by lia,by lia,so1,.inr (of_decide_eq_true eb.symm)⟩
 ·rintro c st1 ⟨rfl,rfl,so1⟩
  have:max n nrem=nrem:=by lia
  rw[this] at so1 ⊢
  exact⟨rfl,_,rfl,by lia,by lia,so1,.inl rfl⟩
 ·rintro c st1 ⟨rfl,m,rfl,m1,m2,so1,e⟩
  exact h m m1 m2 so1 e
theorem wR{st:SortSt}{lo nrem n:Nat}{Q:Option Nat→SortSt→Prop}(hC:Cmp prog w A s κ a₀ key)(hn:lo+nrem≤a₀.size)(h1:1≤n)(h2:n≤nrem)(hB:SQ κ a₀ pd st)(de:De key (arrOf st) lo (lo+n))(ou:Out ar (arrOf st) lo (lo+nrem))(h:∀n st',SQ κ a₀ pd st'→1≤n→n≤nrem→So key (arrOf st') lo (lo+n)→Out ar (arrOf st') lo (lo+nrem)→Q (some n) st'):wpS (model prog w) A E s (finC lo nrem n) Q st:=by
 unfold finC
 refine wpS_bind (lU hB (by lia) fun st2 hB2 hg=>?_)
 refine wpS_bind (wQ hC hn h1 h2 hB2 (fun i j hi hij hj=>?_) fun m m1 m2 so _=>?_)
 ·rw[tI hg,tI hg,if_pos (by lia),if_pos (by lia)]
  exact de _ _ (by lia) (by lia) (by lia)
 ·exact wpS_pure (h m st2 hB2 (by lia) m2 so (ou.trans (lV hg (by lia) (by lia))))
theorem wS{st:SortSt}{lo nrem n:Nat}{Q:Option Nat→SortSt→Prop}(hC:Cmp prog w A s κ a₀ key)(hn:lo+nrem≤a₀.size)(h1:1≤n)(h2:n<nrem)(hB:SQ κ a₀ pd st)(de:De key (arrOf st) lo (lo+(n+1)))(ou:Out ar (arrOf st) lo (lo+nrem))(h:∀n st',SQ κ a₀ pd st'→1≤n→n≤nrem→So key (arrOf st') lo (lo+n)→Out ar (arrOf st') lo (lo+nrem)→Q (some n) st'):wpS (model prog w) A E s (desC lo nrem n) Q st:=by
 unfold desC
 refine wpS_bind (wpS_lift (wpAny_rule ⟨rfl,?_⟩))
 dsimp only
 refine wpS_bind (wpS_mono (wpS_forRange (I:=fun i c st'=>SQ κ a₀ pd st'∧De key (arrOf st') lo (lo+i)∧Out ar (arrOf st') lo (lo+nrem)∧∃q,c=(none,i,q)∧q+1≤i∧∀k,lo+i-(q+1)≤k→k<lo+i→kk key (arrOf st') k=kk key (arrOf st') (lo+i-1)) (Q:=fun c st'=>SQ κ a₀ pd st'∧Out ar (arrOf st') lo (lo+nrem)∧∃i q,c=(none,i,q)∧De key (arrOf st') lo (lo+i)∧1≤i∧i≤nrem∧q+1≤i∧∀k,lo+i-(q+1)≤k→k<lo+i→kk key (arrOf st') k=kk key (arrOf st') (lo+i-1)) ?_ ?_ ⟨hB,de,ou,_,rfl,by lia,fun k hk1 hk2=>by rw[show k=lo+(n+1)-1 by lia]⟩) ?_)
 ·rintro i c st3 hi1 hi2 ⟨hB3,de3,ou3,q,rfl,hq,eq⟩
  dsimp only
  have step:∀st',(∀k,kk key (arrOf st') k=kk key (arrOf st3) k)→kk key (arrOf st3) (lo+i)≤kk key (arrOf st3) (lo+i-1)→De key (arrOf st') lo (lo+(i+1)):=by
   intro st' e hlt x y hx hxy hy
   rw[e,e]
   by_cases c1:y<lo+i
   ·exact de3 x y hx hxy c1
   ·have:y=lo+i:=by lia
    subst this
    by_cases c2:x=lo+i
    ·rw[c2];lia
    ·have:=de3 x (lo+i-1) hx (by lia) (by lia)
     lia
  refine wpS_bind (jL hC hB3 (by lia) (by lia) fun b3 e3=>?_)
  cases b3
  ·have e3':=of_decide_eq_false e3.symm
   dsimp only
   rw[if_neg (by decide)]
   refine wpS_bind (jL hC hB3 (by lia) (by lia) fun b4 e4=>?_)
   cases b4
   ·have e4':=of_decide_eq_false e4.symm
    refine wpS_pure ⟨hB3,step st3 (fun _=>rfl) (by lia),ou3,_,rfl,by lia,fun k hk1 hk2=>?_⟩
    rw[show lo+(i+1)-1=lo+i by lia]
    by_cases c1:k=lo+i
    ·rw[c1]
    ·have:=eq k (by lia) (by lia)
     lia
   ·exact wpS_pure ⟨hB3,ou3,_,_,rfl,de3,by lia,by lia,hq,eq⟩
  ·have e3':=of_decide_eq_true e3.symm
   dsimp only
   rw[if_pos rfl]
   split
   ·refine wpS_bind (lU hB3 (by lia) fun st4 hB4 hg=>wpS_pure ⟨hB4,step st4 (lA hg eq) (by lia),ou3.trans (lV hg (by lia) (by lia)),_,rfl,by lia,fun k hk1 hk2=>by rw[show k=lo+(i+1)-1 by lia]⟩)
   ·exact wpS_pure ⟨hB3,step st3 (fun _=>rfl) (by lia),ou3,_,rfl,by lia,fun k hk1 hk2=>by rw[show k=lo+(i+1)-1 by lia]⟩
 ·rintro c st3 ⟨hB3,de3,ou3,q,rfl,hq,eq⟩
  have:max (n+1) nrem=nrem:=by lia
  rw[this] at de3 hq eq ⊢
  exact⟨hB3,ou3,_,_,rfl,de3,by lia,by lia,hq,eq⟩
 ·rintro c st3 ⟨hB3,ou3,i,q,rfl,de3,i1,i2,hq,eq⟩
  dsimp only
  split
  ·refine wpS_bind (lU hB3 (by lia) fun st4 hB4 hg=>?_)
   refine wR hC hn i1 i2 hB4 (fun x y hx hxy hy=>?_) (ou3.trans (lV hg (by lia) (by lia))) h
   rw[lA hg eq,lA hg eq]
   exact de3 x y hx hxy hy
  ·exact wR hC hn i1 i2 hB3 de3 ou3 h
theorem aAX{st:SortSt}{lo nrem:Nat}{Q:Option Nat→SortSt→Prop}(hC:Cmp prog w A s κ a₀ key)(hn:lo+nrem≤a₀.size)(h1:1≤nrem)(hB:SQ κ a₀ pd st)(h:∀n st',SQ κ a₀ pd st'→1≤n→n≤nrem→So key (arrOf st') lo (lo+n)→Out (arrOf st) (arrOf st') lo (lo+nrem)→Q (some n) st'):wpS (model prog w) A E s (countRun' lo nrem) Q st:=by
 rw[qZ]
 refine wpS_bind (wQ hC hn (Nat.le_refl 1) h1 hB (fun i j hi hij hj=>by rw[show i=j by lia];exact Int.le_refl _) fun n n1 n2 so e=>?_)
 dsimp only
 by_cases e1:(n==nrem)=true
 ·rw[if_pos e1];exact wpS_pure (h n st hB n1 n2 so Out.refl)
 rw[if_neg e1]
 have g1:¬ (n=nrem):=by simpa using e1
 have hlt:kk key (arrOf st) (lo+n)<kk key (arrOf st) (lo+n-1):=e.resolve_left g1
 by_cases e2:n > 1
 ·rw[if_pos e2]
  refine wpS_bind (jL hC hB (by lia) (by lia) fun b2 eb=>?_)
  cases b2
  ·have e3:=of_decide_eq_false eb.symm
   dsimp only
   rw[if_neg (by decide)]
   have eq:∀k,lo≤k→k<lo+n→kk key (arrOf st) k=kk key (arrOf st) (lo+n-1):=fun k hk1 hk2=>by
    have a1:=so lo k (by lia) hk1 hk2
    have a2:=so k (lo+n-1) hk1 (by lia) (by lia)
    lia
   refine wpS_bind (lU hB (by lia) fun st2 hB2 hg=>?_)
   refine wS hC hn n1 (by lia) hB2 (fun i j hi hij hj=>?_) (lV hg (by lia) (by lia)) h
   rw[lA hg eq,lA hg eq]
   by_cases c1:j<lo+n
   ·rw[eq j (by lia) c1,eq i hi (by lia)];exact Int.le_refl _
   ·have:j=lo+n:=by lia
    subst this
    by_cases c2:i=lo+n
    ·rw[c2];exact Int.le_refl _
    ·rw[eq i hi (by lia)];lia
  ·exact wpS_pure (h n st hB n1 n2 so Out.refl)
 ·rw[if_neg e2]
  have:n=1:=by lia
  subst this
  refine wS hC hn n1 (by lia) hB (fun i j hi hij hj=>?_) Out.refl h
  by_cases c1:i=j
  ·rw[c1];exact Int.le_refl _
  ·have:i=lo:=by lia
   have:j=lo+1:=by lia
   subst i;subst j
   rw[show lo+1-1=lo by lia] at hlt
   lia
end
end PyProof.Rows
namespace PyProof.Rows
open PySem
theorem yT(left:Bool)(key:Keyed)(arr:Array Keyed)(base n hint:Nat):dG left key arr base n hint=(do
 let beyond (i:Nat):StateT SortSt Sem (Option Bool):=do
  let x ← elem' arr (base+i)
  if left then lt' x key else return (← lt' key x).map (!·)
 let mut lastofs:=0
 let mut ofs:=1
 let mut lo:=0
 let mut hi:=0
 let some right ← beyond hint|return none
 if right then
  let maxofs:=n-hint
  for _ in [0:n] do
   if ofs≥maxofs then break
   let some more ← beyond (hint+ofs)|return none
   if !more then break
   lastofs:=ofs
   ofs:=2*ofs+1
  lo:=hint+lastofs+1
  hi:=hint+min ofs maxofs
 else
  let maxofs:=hint+1
  for _ in [0:n] do
   if ofs≥maxofs then break
   let some found ← beyond (hint-ofs)|return none
   if found then break
   lastofs:=ofs
   ofs:=2*ofs+1
  lo:=hint+1-min ofs maxofs
  hi:=hint-lastofs
 for _ in [0:n] do
  if lo≥hi then break
  let m:=lo+(hi-lo) / 2
  let some more ← beyond m|return none
  if more then lo:=m+1 else hi:=m
 return some hi):=rfl
def thr(left:Bool)(k:Int):Int:=if left then k else k+1
section
variable {prog:Program} {w:World} {A:Around} {E:Value→Shared→Prop} {s:Shared} {κ:SortKind} {a₀:Array Keyed} {pd:Array (Nat×Nat×Nat)} {key:Keyed→Int}
theorem hX{st:SortSt}{left:Bool}{x:Keyed}{arr:Array Keyed}{j:Nat}{Q:Option Bool→SortSt→Prop}(hC:Cmp prog w A s κ a₀ key)(hk:kindOf st=κ)(hkey:x∈a₀.toList)(hin:∀x∈arr.toList,x∈a₀.toList)(hj:j<arr.size)(h:∀b,b=decide (kk key arr j<thr left (key x))→Q (some b) st):
  wpS (model prog w) A E s (do
  let y ← elem' arr j
  if left then lt' y x else return (← lt' x y).map (!·)) Q st:=by
 have hm:arr[j]∈a₀.toList:=hin _ (by simp)
 refine wpS_bind (bK (getElem?_pos arr j hj) ?_)
 cases left
 ·rw[if_neg (by decide)]
  refine wpS_bind (kZ hC hk hkey hm (wpS_pure (h _ ?_)))
  rw[cI hj]
  show (!decide (key x<key arr[j]))=decide (key arr[j]<key x+1)
  by_cases c:key x<key arr[j]
  ·rw[decide_eq_true c,decide_eq_false (by lia)];rfl
  ·rw[decide_eq_false c,decide_eq_true (by lia)];rfl
 ·rw[if_pos rfl]
  refine kZ hC hk hm hkey (h _ ?_)
  rw[cI hj];rfl
theorem tJ{st:SortSt}{left:Bool}{x:Keyed}{arr:Array Keyed}{base n l u:Nat}{Q:Option Nat→SortSt→Prop}(hC:Cmp prog w A s κ a₀ key)(hk:kindOf st=κ)(hkey:x∈a₀.toList)(hin:∀x∈arr.toList,x∈a₀.toList)(hn:base+n≤arr.size)(so:So key arr base (base+n))(hl:l≤u)(hu:u≤n)(f1:∀i,i<l→kk key arr (base+i)<thr left (key x))(f2:∀i,u≤i→i<n→thr left (key x)≤kk key arr (base+i))(h:∀k,k≤n→(∀i,i<k→kk key arr (base+i)<thr left (key x))→(∀i,k≤i→i<n→thr left (key x)≤kk key arr (base+i))→Q (some k) st):wpS (model prog w) A E s (do
   let mut lo:=l
   let mut hi:=u
   for _ in [0:n] do
    if lo≥hi then break
    let m:=lo+(hi-lo) / 2
    let some more ← (do
     let y ← elem' arr (base+m)
     if left then lt' y x else return (← lt' x y).map (!·))|return none
    if more then lo:=m+1 else hi:=m
   return some hi) Q st:=by
 refine wpS_bind (wpS_mono (wpS_forRange (I:=fun j c st'=>(∃l u,c=(none,l,u)∧l≤u∧u≤n∧u≤l+(n-j)∧(∀i,i<l→kk key arr (base+i)<thr left (key x))∧(∀i,u≤i→i<n→thr left (key x)≤kk key arr (base+i)))∧st=st') (Q:=fun c st'=>(∃l u,c=(none,l,u)∧u≤l∧u≤n∧(∀i,i<l→kk key arr (base+i)<thr left (key x))∧(∀i,u≤i→i<n→thr left (key x)≤kk key arr (base+i)))∧st=st') ?_ ?_ ⟨⟨_,_,rfl,hl,hu,by lia,f1,f2⟩,rfl⟩) ?_)
 ·rintro j c st' _ hj ⟨⟨l,u,rfl,hlu,hu,hd,f1,f2⟩,rfl⟩
  dsimp only
  by_cases hlr:l≥u
  ·rw[if_pos hlr];exact wpS_pure ⟨⟨_,_,rfl,hlr,hu,f1,f2⟩,rfl⟩
  ·rw[if_neg hlr]
   refine wpS_bind (hX hC hk hkey hin (by lia) fun more e=>?_)
   cases more
   ·have e':=of_decide_eq_false e.symm
    refine wpS_pure ⟨⟨_,_,rfl,by lia,by lia,by lia,f1,fun i hi hi'=>?_⟩,rfl⟩
    have:=so (base+(l+(u-l) / 2)) (base+i) (by lia) (by lia) (by lia)
    lia
   ·have e':=of_decide_eq_true e.symm
    refine wpS_pure ⟨⟨_,_,rfl,by lia,by lia,by lia,fun i hi=>?_,f2⟩,rfl⟩
    have:=so (base+i) (base+(l+(u-l) / 2)) (by lia) (by lia) (by lia)
    lia
 ·rintro c st' ⟨⟨l,u,rfl,hlu,hu,hd,f1,f2⟩,rfl⟩
  exact⟨⟨_,_,rfl,by lia,hu,f1,f2⟩,rfl⟩
 ·rintro c st' ⟨⟨l,u,rfl,hlu,hu,f1,f2⟩,rfl⟩
  exact wpS_pure (h u hu (fun i hi=>f1 i (by lia)) f2)
theorem eN{st:SortSt}{left:Bool}{x:Keyed}{arr:Array Keyed}{base n hint:Nat}{Q:Option Nat→SortSt→Prop}(hC:Cmp prog w A s κ a₀ key)(hk:kindOf st=κ)(hkey:x∈a₀.toList)(hin:∀x∈arr.toList,x∈a₀.toList)(hn:base+n≤arr.size)(hh:hint<n)(so:So key arr base (base+n))(h:∀k,k≤n→(∀i,i<k→kk key arr (base+i)<thr left (key x))→(∀i,k≤i→i<n→thr left (key x)≤kk key arr (base+i))→Q (some k) st):wpS (model prog w) A E s (dG left x arr base n hint) Q st:=by
 rw[yT]
 refine wpS_bind (hX hC hk hkey hin (by lia) fun right er=>?_)
 cases right
 ·have er':=of_decide_eq_false er.symm
  dsimp only
  rw[if_neg (by decide)]
  refine wpS_bind (wpS_mono (wpS_forRange (I:=fun j c st'=>(∃l o,c=(none,l,o)∧l<o∧j<o∧l≤hint∧thr left (key x)≤kk key arr (base+(hint-l)))∧st=st') (Q:=fun c st'=>(∃l o,c=(none,l,o)∧l<o∧l≤hint∧thr left (key x)≤kk key arr (base+(hint-l))∧(hint+1≤o∨kk key arr (base+(hint-o))<thr left (key x)))∧st=st') ?_ ?_ ⟨⟨_,_,rfl,by lia,by lia,by lia,by rw[Nat.sub_zero];lia⟩,rfl⟩) ?_)
  ·rintro j c st' _ _ ⟨⟨l,o,rfl,hlo,hjo,hl,f⟩,rfl⟩
   dsimp only
   by_cases hlr:o≥hint+1
   ·rw[if_pos hlr];exact wpS_pure ⟨⟨_,_,rfl,hlo,hl,f,.inl hlr⟩,rfl⟩
   ·rw[if_neg hlr]
    refine wpS_bind (hX hC hk hkey hin (by lia) fun found e=>?_)
    cases found
    ·have e':=of_decide_eq_false e.symm
     exact wpS_pure ⟨⟨_,_,rfl,by lia,by lia,by lia,by lia⟩,rfl⟩
    ·exact wpS_pure ⟨⟨_,_,rfl,hlo,hl,f,.inr (of_decide_eq_true e.symm)⟩,rfl⟩
  ·rintro c st' ⟨⟨l,o,rfl,hlo,hjo,hl,f⟩,rfl⟩
   exact⟨⟨_,_,rfl,hlo,hl,f,.inl (by lia)⟩,rfl⟩
  ·rintro c st' ⟨⟨l,o,rfl,hlo,hl,f,e⟩,rfl⟩
   dsimp only
   refine tJ hC hk hkey hin hn so (by lia) (by lia) (fun i hi=>?_) (fun i hi hi'=>?_) h
   ·rcases e with e|e
    ·lia
    ·by_cases c:hint+1≤o
     ·lia
     ·have:=so (base+i) (base+(hint-o)) (by lia) (by lia) (by lia)
      lia
   ·have:=so (base+(hint-l)) (base+i) (by lia) (by lia) (by lia)
    lia
 ·have er':=of_decide_eq_true er.symm
  dsimp only
  rw[if_pos rfl]
  refine wpS_bind (wpS_mono (wpS_forRange (I:=fun j c st'=>(∃l o,c=(none,l,o)∧l<o∧j<o∧l<n-hint∧kk key arr (base+(hint+l))<thr left (key x))∧st=st') (Q:=fun c st'=>(∃l o,c=(none,l,o)∧l<o∧l<n-hint∧kk key arr (base+(hint+l))<thr left (key x)∧(n-hint≤o∨thr left (key x)≤kk key arr (base+(hint+o))))∧st=st') ?_ ?_ ⟨⟨_,_,rfl,by lia,by lia,by lia,by rw[Nat.add_zero];exact er'⟩,rfl⟩) ?_)
  ·rintro j c st' _ _ ⟨⟨l,o,rfl,hlo,hjo,hl,f⟩,rfl⟩
   dsimp only
   by_cases hlr:o≥n-hint
   ·rw[if_pos hlr];exact wpS_pure ⟨⟨_,_,rfl,hlo,hl,f,.inl hlr⟩,rfl⟩
   ·rw[if_neg hlr]
    refine wpS_bind (hX hC hk hkey hin (by lia) fun more e=>?_)
    cases more
    ·have e':=of_decide_eq_false e.symm
     exact wpS_pure ⟨⟨_,_,rfl,hlo,hl,f,.inr (by lia)⟩,rfl⟩
    ·exact wpS_pure ⟨⟨_,_,rfl,by lia,by lia,by lia,of_decide_eq_true e.symm⟩,rfl⟩
  ·rintro c st' ⟨⟨l,o,rfl,hlo,hjo,hl,f⟩,rfl⟩
   exact⟨⟨_,_,rfl,hlo,hl,f,.inl (by lia)⟩,rfl⟩
  ·rintro c st' ⟨⟨l,o,rfl,hlo,hl,f,e⟩,rfl⟩
   dsimp only
   refine tJ hC hk hkey hin hn so (by lia) (by lia) (fun i hi=>?_) (fun i hi hi'=>?_) h
   ·have:=so (base+i) (base+(hint+l)) (by lia) (by lia) (by lia)
    lia
   ·rcases e with e|e
    ·lia
    ·by_cases c:n-hint≤o
     ·lia
     ·have:=so (base+(hint+o)) (base+i) (by lia) (by lia) (by lia)
      lia
end
end PyProof.Rows
namespace PyProof.Rows
open PySem
theorem eA(g:Nat):cW g=modify fun s=>SortSt.mk' (kindOf s) (arrOf s) (pendingOf s) g (failedOf s):=rfl
structure SM(κ:SortKind)(ar:Array Keyed)(pd:Array (Nat×Nat×Nat))(st:SortSt):Prop where
 arr:arrOf st=ar
 kind:kindOf st=κ
 failed:failedOf st=none
 pend:pendingOf st=pd
abbrev GSt:=Option (Array Keyed)×Array Keyed×Nat×Nat×Nat×Nat×Nat
abbrev iN(a b out:Array Keyed)(ia ib:Nat):=out++a.extract ia a.size++b.extract ib b.size
abbrev oB(a b out:Array Keyed)(ia ib:Nat):=out++b.extract ib b.size++a.extract ia a.size
def loC(a b out:Array Keyed)(ia ib mg ac bc:Nat):StateT SortSt Sem (ForInStep GSt):=do
 let x ← elem' a ia
 if ia+1+1==a.size then pure (.done (some (oB a b (out.push x) (ia+1) ib),out.push x,ia+1,ib,mg,ac,bc))
 else if ac<7&&bc<7 then pure (.done (none,out.push x,ia+1,ib,mg,ac,bc)) else pure (.yield (none,out.push x,ia+1,ib,mg,ac,bc))
def loB(a b out:Array Keyed)(ia ib mg ac bc:Nat):StateT SortSt Sem (ForInStep GSt):=do
 let x ← elem' b ib
 if ib+1==b.size then pure (.done (some (iN a b (out.push x) ia (ib+1)),out.push x,ia,ib+1,mg,ac,bc))
 else do
  let some k ← dG true (← elem' a ia) b (ib+1) (b.size-(ib+1)) 0|pure (.done (some (iN a b (out.push x) ia (ib+1)),out.push x,ia,ib+1,mg,ac,bc))
  if k > 0 then
   if ib+1+k==b.size then pure (.done (some (iN a b (out.push x++b.extract (ib+1) (ib+1+k)) ia (ib+1+k)),out.push x++b.extract (ib+1) (ib+1+k),ia,ib+1+k,mg,ac,k))
   else loC a b (out.push x++b.extract (ib+1) (ib+1+k)) ia (ib+1+k) mg ac k
  else loC a b (out.push x) ia (ib+1) mg ac k
def loA(a b out:Array Keyed)(ia ib mg ac bc:Nat):StateT SortSt Sem (ForInStep GSt):=do
 cW mg
 let some k ← dG false (← elem' b ib) a ia (a.size-ia) 0|pure (.done (some (iN a b out ia ib),out,ia,ib,mg,ac,bc))
 if k > 0 then
  if ia+k+1==a.size then pure (.done (some (oB a b (out++a.extract ia (ia+k)) (ia+k) ib),out++a.extract ia (ia+k),ia+k,ib,mg,k,bc))
  else if ia+k==a.size then pure (.done (some (iN a b (out++a.extract ia (ia+k)) (ia+k) ib),out++a.extract ia (ia+k),ia+k,ib,mg,k,bc))
  else loB a b (out++a.extract ia (ia+k)) (ia+k) ib mg k bc
 else loB a b out ia ib mg k bc
theorem vT(a b:Array Keyed):mX a b=(do
 rule "list.sort.merge-lo"
 let total:=a.size+b.size
 let done (out:Array Keyed) (ia ib:Nat):=out++a.extract ia a.size++b.extract ib b.size
 let lastOfA (out:Array Keyed) (ia ib:Nat):=out++b.extract ib b.size++a.extract ia a.size
 let mut out:Array Keyed:=#[← elem' b 0]
 let mut ia:=0
 let mut ib:=1
 if ib==b.size then return done out ia ib
 if ia+1==a.size then return lastOfA out ia ib
 let mut minGallop:=gallopOf (← get)
 for _ in [0:total] do
  let mut acount:=0
  let mut bcount:=0
  for _ in [0:total] do
   let some bWins ← lt' (← elem' b ib) (← elem' a ia)|return done out ia ib
   if bWins then
    out:=out.push (← elem' b ib);ib:=ib+1;bcount:=bcount+1;acount:=0
    if ib==b.size then return done out ia ib
    if bcount≥minGallop then break
   else
    out:=out.push (← elem' a ia);ia:=ia+1;acount:=acount+1;bcount:=0
    if ia+1==a.size then return lastOfA out ia ib
    if acount≥minGallop then break
  rule "list.sort.gallop"
  minGallop:=minGallop+1
  for _ in [0:total] do
   if minGallop > 1 then minGallop:=minGallop-1
   cW minGallop
   let some k ← dG false (← elem' b ib) a ia (a.size-ia) 0|return done out ia ib
   acount:=k
   if k > 0 then
    out:=out++a.extract ia (ia+k);ia:=ia+k
    if ia+1==a.size then return lastOfA out ia ib
    if ia==a.size then return done out ia ib
   out:=out.push (← elem' b ib);ib:=ib+1
   if ib==b.size then return done out ia ib
   let some k ← dG true (← elem' a ia) b ib (b.size-ib) 0|return done out ia ib
   bcount:=k
   if k > 0 then
    out:=out++b.extract ib (ib+k);ib:=ib+k
    if ib==b.size then return done out ia ib
   out:=out.push (← elem' a ia);ia:=ia+1
   if ia+1==a.size then return lastOfA out ia ib
   if acount<7&&bcount<7 then break
  minGallop:=minGallop+1
  cW minGallop
 unsupported "internal:list.sort.merge-bound"):=rfl
def PI(a b out:Array Keyed)(ia ib:Nat):Prop:=out.toList.Perm (a.toList.take ia++b.toList.take ib)
theorem tK{l:List Keyed}{i:Nat}(h:i<l.length):l.take (i+1)=l.take i++[l[i]]:=by rw[List.take_add_one,List.getElem?_eq_getElem h];rfl
theorem PI.pushA{a b out:Array Keyed}{ia ib:Nat}(h:PI a b out ia ib)(hi:ia<a.size):PI a b (out.push a[ia]) (ia+1) ib:=by
 unfold PI at h ⊢
 rw[Array.toList_push,tK (by simpa using hi),List.append_assoc]
 refine(h.append_right _).trans ?_
 rw[List.append_assoc]
 refine List.Perm.append_left _ ?_
 have:a.toList[ia]'(by simpa using hi)=a[ia]:=by simp
 rw[this]
 exact List.perm_append_comm
theorem eC{a:Array Keyed}{i j:Nat}:(a.extract i j).toList=(a.toList.drop i).take (j-i):=by
 rw[Array.toList_extract,List.extract_eq_take_drop]
theorem aBS{a:Array Keyed}{i k:Nat}(h:i+k<a.size):a.extract i (i+(k+1))=(a.extract i (i+k)).push a[i+k]:=by
 apply Array.toList_inj.mp
 rw[Array.toList_push,eC,eC,Nat.add_sub_cancel_left,Nat.add_sub_cancel_left,tK (by simp;lia)]
 congr 2
 simp
structure MI(key:Keyed→Int)(a b out:Array Keyed)(ia ib:Nat):Prop where
 perm:PI a b out ia ib
 so:out.toList.Pairwise fun x y=>key x≤key y
 la:∀x∈out.toList,ia<a.size→key x≤kk key a ia
 lb:∀x∈out.toList,ib<b.size→key x≤kk key b ib
def Fi(key:Keyed→Int)(a b r:Array Keyed):Prop:=r.Perm (a++b)∧r.toList.Pairwise fun x y=>key x≤key y
section
variable {key:Keyed→Int} {a b out:Array Keyed} {ia ib:Nat}
theorem MI.swap(h:MI key a b out ia ib):MI key b a out ib ia:=⟨h.perm.trans List.perm_append_comm,h.so,h.lb,h.la⟩
theorem MI.pushA(h:MI key a b out ia ib)(hi:ia<a.size)(sa:So key a 0 a.size)(c:ib<b.size→kk key a ia≤kk key b ib):MI key a b (out.push a[ia]) (ia+1) ib:=by
 refine⟨h.perm.pushA hi,?_,fun x hx hl=>?_,fun x hx hl=>?_⟩
 ·rw[Array.toList_push]
  refine List.pairwise_append.mpr ⟨h.so,List.pairwise_singleton _ _,fun x hx y hy=>?_⟩
  rw[List.mem_singleton.mp hy,← cI (key:=key) hi]
  exact h.la x hx hi
 ·rw[Array.toList_push] at hx
  have:=sa ia (ia+1) (by lia) (by lia) hl
  rcases List.mem_append.mp hx with z|z
  ·have:=h.la x z hi;lia
  ·rw[List.mem_singleton.mp z,← cI (key:=key) hi];exact this
 ·rw[Array.toList_push] at hx
  rcases List.mem_append.mp hx with z|z
  ·exact h.lb x z hl
  ·rw[List.mem_singleton.mp z,← cI (key:=key) hi];exact c hl
theorem MI.appA(h:MI key a b out ia ib)(sa:So key a 0 a.size):∀ (k:Nat),ia+k≤a.size→(ib<b.size→∀i,i<k→kk key a (ia+i)≤kk key b ib)→MI key a b (out++a.extract ia (ia+k)) (ia+k) ib
 |0,_,_=>by
  have e:a.extract ia (ia+0)=#[]:=by simp;lia
  rw[e,Array.append_empty];exact h
 |k+1,hk,c=>by
  have:=(MI.appA h sa k (by lia) fun hb i hi=>c hb i (by lia)).pushA (by lia) sa fun hb=>c hb k (by lia)
  rw[aBS (by lia),← Array.push_append]
  exact this
theorem MI.pushB(h:MI key a b out ia ib)(hi:ib<b.size)(sb:So key b 0 b.size)(c:ia<a.size→kk key b ib≤kk key a ia):MI key a b (out.push b[ib]) ia (ib+1):=(h.swap.pushA hi sb c).swap
theorem MI.appB(h:MI key a b out ia ib)(sb:So key b 0 b.size)(k:Nat)(hk:ib+k≤b.size)(c:ia<a.size→∀i,i<k→kk key b (ib+i)≤kk key a ia):MI key a b (out++b.extract ib (ib+k)) ia (ib+k):=(h.swap.appA sb k hk c).swap
theorem MI.fin(h:MI key a b out a.size b.size):Fi key a b out:=by
 refine⟨?_,h.so⟩
 have:=h.perm
 unfold PI at this
 rw[List.take_of_length_le (by simp),List.take_of_length_le (by simp)] at this
 rw[Array.perm_iff_toList_perm,Array.toList_append]
 exact this
theorem MI.done(h:MI key a b out ia ib)(sa:So key a 0 a.size)(sb:So key b 0 b.size)(ha:ia≤a.size)(hb:ib≤b.size)(c:ib<b.size→∀i,i<a.size-ia→kk key a (ia+i)≤kk key b ib):Fi key a b (iN a b out ia ib):=by
 have h1:=h.appA sa (a.size-ia) (by lia) c
 rw[show ia+(a.size-ia)=a.size by lia] at h1
 have h2:=h1.appB sb (b.size-ib) (by lia) fun z=>by lia
 rw[show ib+(b.size-ib)=b.size by lia] at h2
 exact h2.fin
theorem MI.last(h:MI key a b out ia ib)(sa:So key a 0 a.size)(sb:So key b 0 b.size)(ha:ia≤a.size)(hb:ib≤b.size)(c:ia<a.size→∀i,i<b.size-ib→kk key b (ib+i)≤kk key a ia):Fi key a b (oB a b out ia ib):=by
 have:=h.swap.done sb sa hb ha c
 refine⟨this.1.trans ?_,this.2⟩
 rw[Array.perm_iff_toList_perm,Array.toList_append,Array.toList_append]
 exact List.perm_append_comm
end
section
variable {prog:Program} {w:World} {A:Around} {E:Value→Shared→Prop} {s:Shared} {κ:SortKind} {a₀:Array Keyed} {pd:Array (Nat×Nat×Nat)} {ar:Array Keyed} {key:Keyed→Int}
structure Two(key:Keyed→Int)(a₀ a b:Array Keyed):Prop where
 ha:∀x∈a.toList,x∈a₀.toList
 hb:∀x∈b.toList,x∈a₀.toList
 a1:1≤a.size
 b1:1≤b.size
 sa:So key a 0 a.size
 sb:So key b 0 b.size
 c0:kk key b 0≤kk key a 0
 c1:∀i,i<b.size→kk key b i≤kk key a (a.size-1)
theorem Two.last{a b:Array Keyed}(T:Two key a₀ a b){out:Array Keyed}{ia ib:Nat}(h:MI key a b out ia ib)(ha:ia+1=a.size)(hb:ib≤b.size):Fi key a b (oB a b out ia ib):=
 h.last T.sa T.sb (by lia) hb fun _ i hi=>by
  have:=T.c1 (ib+i) (by lia)
  rw[show a.size-1=ia by lia] at this
  exact this
theorem Two.done{a b:Array Keyed}(T:Two key a₀ a b){out:Array Keyed}{ia ib:Nat}(h:MI key a b out ia ib)(ha:ia≤a.size)(hb:ib=b.size):Fi key a b (iN a b out ia ib):=
 h.done T.sa T.sb ha (by lia) fun z=>by lia
def GP(κ:SortKind)(ar:Array Keyed)(pd:Array (Nat×Nat×Nat))(key:Keyed→Int)(a b:Array Keyed)(n:Nat)(r:ForInStep GSt)(st:SortSt):Prop:=SM κ ar pd st∧
 ((∃x c,r=.done (some x,c)∧Fi key a b x)∨∃out ia ib mg ac bc,(r=.done (none,out,ia,ib,mg,ac,bc)∨r=.yield (none,out,ia,ib,mg,ac,bc))∧MI key a b out ia ib∧ia+1<a.size∧ib<b.size∧n≤ia+ib)
theorem wT{st:SortSt}{a b out:Array Keyed}{ia ib mg ac bc n:Nat}(T:Two key a₀ a b)(hB:SM κ ar pd st)(h:MI key a b out ia ib)(la:ia+1<a.size)(lb:ib<b.size)(li:n≤ia+ib)(c:kk key a ia≤kk key b ib):
  wpS (model prog w) A E s (loC a b out ia ib mg ac bc) (GP κ ar pd key a b n) st:=by
 unfold loC
 refine wpS_bind (bK (getElem?_pos a ia (by lia)) ?_)
 have p:=h.pushA (show ia<a.size by lia) T.sa fun _=>c
 by_cases f:(ia+1+1==a.size)=true
 ·rw[if_pos f];exact wpS_pure ⟨hB,.inl ⟨_,_,rfl,T.last p (by simpa using f) (by lia)⟩⟩
 rw[if_neg f]
 have g:¬ (ia+1+1=a.size):=by simpa using f
 split
 ·exact wpS_pure ⟨hB,.inr ⟨_,_,_,_,_,_,.inl rfl,p,by lia,by lia,by lia⟩⟩
 ·exact wpS_pure ⟨hB,.inr ⟨_,_,_,_,_,_,.inr rfl,p,by lia,by lia,by lia⟩⟩
theorem wU{st:SortSt}{a b out:Array Keyed}{ia ib mg ac bc n:Nat}(hC:Cmp prog w A s κ a₀ key)(T:Two key a₀ a b)(hB:SM κ ar pd st)(h:MI key a b out ia ib)(la:ia+1<a.size)(lb:ib<b.size)(li:n≤ia+ib)(c:kk key b ib≤kk key a ia):
  wpS (model prog w) A E s (loB a b out ia ib mg ac bc) (GP κ ar pd key a b n) st:=by
 unfold loB
 refine wpS_bind (bK (getElem?_pos b ib (by lia)) ?_)
 have p:=h.pushB lb T.sb fun _=>c
 by_cases f:(ib+1==b.size)=true
 ·rw[if_pos f];exact wpS_pure ⟨hB,.inl ⟨_,_,rfl,T.done p (by lia) (by simpa using f)⟩⟩
 rw[if_neg f]
 have g:¬ (ib+1=b.size):=by simpa using f
 refine wpS_bind (bK (getElem?_pos a ia (by lia)) ?_)
 refine wpS_bind (eN hC hB.kind (T.ha _ (by simp)) T.hb (by lia) (by lia) (fun i j h1 h2 h3=>T.sb i j (by lia) h2 (by lia)) fun k hk q1 q2=>?_)
 rw[← cI (key:=key) (a:=a) (i:=ia) (by lia)] at q1 q2
 simp only[thr,if_true] at q1 q2
 dsimp only
 by_cases kp:k > 0
 ·rw[if_pos kp]
  have p2:=p.appB T.sb k (by lia) fun _ i hi=>by have:=q1 i hi;lia
  by_cases f2:(ib+1+k==b.size)=true
  ·rw[if_pos f2];exact wpS_pure ⟨hB,.inl ⟨_,_,rfl,T.done p2 (by lia) (by simpa using f2)⟩⟩
  rw[if_neg f2]
  have g2:¬ (ib+1+k=b.size):=by simpa using f2
  exact wT T hB p2 la (by lia) (by lia) (q2 k (by lia) (by lia))
 ·rw[if_neg kp]
  have e:k=0:=by lia
  subst e
  exact wT T hB p la (by lia) (by lia) (q2 0 (by lia) (by lia))
theorem aCY{st:SortSt}{a b out:Array Keyed}{ia ib mg ac bc n:Nat}(hC:Cmp prog w A s κ a₀ key)(T:Two key a₀ a b)(hB:SM κ ar pd st)(h:MI key a b out ia ib)(la:ia+1<a.size)(lb:ib<b.size)(li:n≤ia+ib):
  wpS (model prog w) A E s (loA a b out ia ib mg ac bc) (GP κ ar pd key a b n) st:=by
 unfold loA
 rw[eA]
 refine wpS_bind (wpS_modify ?_)
 have hB2:SM κ ar pd (SortSt.mk' (kindOf st) (arrOf st) (pendingOf st) mg (failedOf st)):=⟨hB.arr,hB.kind,hB.failed,hB.pend⟩
 refine wpS_bind (bK (getElem?_pos b ib (by lia)) ?_)
 refine wpS_bind (eN hC hB2.kind (T.hb _ (by simp)) T.ha (by lia) (by lia) (fun i j h1 h2 h3=>T.sa i j (by lia) h2 (by lia)) fun k hk q1 q2=>?_)
 rw[← cI (key:=key) (a:=b) (i:=ib) (by lia)] at q1 q2
 simp only[thr,Bool.false_eq_true,if_false] at q1 q2
 dsimp only
 by_cases kp:k > 0
 ·rw[if_pos kp]
  have p2:=h.appA T.sa k (by lia) fun _ i hi=>by have:=q1 i hi;lia
  by_cases f4:(ia+k+1==a.size)=true
  ·rw[if_pos f4];exact wpS_pure ⟨hB2,.inl ⟨_,_,rfl,T.last p2 (by simpa using f4) (by lia)⟩⟩
  rw[if_neg f4]
  have g4:¬ (ia+k+1=a.size):=by simpa using f4
  by_cases f5:(ia+k==a.size)=true
  ·rw[if_pos f5]
   have g5:ia+k=a.size:=by simpa using f5
   exact wpS_pure ⟨hB2,.inl ⟨_,_,rfl,p2.done T.sa T.sb (by lia) (by lia) fun _ i hi=>by lia⟩⟩
  rw[if_neg f5]
  have g5:¬ (ia+k=a.size):=by simpa using f5
  exact wU hC T hB2 p2 (by lia) lb (by lia) (by have:=q2 k (by lia) (by lia);lia)
 ·rw[if_neg kp]
  have e:k=0:=by lia
  subst e
  exact wU hC T hB2 h la lb li (by have:=q2 0 (by lia) (by lia);rw[Nat.add_zero] at this;lia)
theorem vU{st:SortSt}{a b:Array Keyed}{Q:Array Keyed→SortSt→Prop}(hC:Cmp prog w A s κ a₀ key)(hB:SM κ ar pd st)(T:Two key a₀ a b)(h:∀out st',Fi key a b out→SM κ ar pd st'→Q out st'):wpS (model prog w) A E s (mX a b) Q st:=by
 have a1:=T.a1
 have b1:=T.b1
 rw[vT]
 refine wpS_bind (wpS_lift (wpAny_rule ⟨rfl,?_⟩))
 refine wpS_bind (bK (getElem?_pos b 0 (by lia)) ?_)
 dsimp only
 have p0:MI key a b #[b[0]] 0 1:=by
  have:MI key a b #[] 0 0:=⟨by unfold PI;simp,List.Pairwise.nil,fun x hx=>by simp at hx,fun x hx=>by simp at hx⟩
  exact this.pushB (by lia) T.sb fun _=>T.c0
 by_cases e1:(1==b.size)=true
 ·rw[if_pos e1]
  exact wpS_pure (h _ _ (T.done p0 (by lia) (by simpa using e1)) hB)
 rw[if_neg e1]
 have n1:¬ (1=b.size):=by simpa using e1
 by_cases e2:(0+1==a.size)=true
 ·rw[if_pos e2]
  exact wpS_pure (h _ _ (T.last p0 (by simpa using e2) (by lia)) hB)
 rw[if_neg e2]
 have n2:¬ (0+1=a.size):=by simpa using e2
 refine wpS_bind (wpS_get ?_)
 refine wpS_bind (wpS_mono (wpS_forRange (I:=fun i c st'=>SM κ ar pd st'∧∃out ia ib mg,c=(none,out,ia,ib,mg)∧MI key a b out ia ib∧ia+1<a.size∧ib<b.size∧i≤ia+ib) (Q:=fun c st'=>SM κ ar pd st'∧∃r c',c=(some r,c')∧Fi key a b r) ?_ ?_ ⟨hB,_,_,_,_,rfl,p0,by lia,by lia,by lia⟩) ?_)
 ·rintro i c st1 _ hi ⟨hB0,out,ia,ib,mg,rfl,p1,la,lb,li⟩
  dsimp only
  refine wpS_bind (wpS_mono (wpS_forRange (I:=fun x c st'=>SM κ ar pd st'∧∃out ia ib ac bc,c=(none,out,ia,ib,ac,bc)∧MI key a b out ia ib∧ia+1<a.size∧ib<b.size∧i+x≤ia+ib) (Q:=fun c st'=>SM κ ar pd st'∧((∃r c',c=(some r,c')∧Fi key a b r)∨∃out ia ib ac bc,c=(none,out,ia,ib,ac,bc)∧MI key a b out ia ib∧ia+1<a.size∧ib<b.size∧i+1≤ia+ib)) ?_ ?_ ⟨hB0,_,_,_,_,_,rfl,p1,la,lb,by lia⟩) ?_)
  ·rintro x c st2 _ hx ⟨hB1,out,ia,ib,ac,bc,rfl,p1,la,lb,li⟩
   dsimp only
   refine wpS_bind (bK (getElem?_pos b ib (by lia)) ?_)
   refine wpS_bind (bK (getElem?_pos a ia (by lia)) ?_)
   refine wpS_bind (kZ hC hB1.kind (T.hb _ (by simp)) (T.ha _ (by simp)) ?_)
   rw[← cI (key:=key) (a:=b) (i:=ib) (by lia),← cI (key:=key) (a:=a) (i:=ia) (by lia)]
   by_cases bw:kk key b ib<kk key a ia
   ·rw[decide_eq_true bw]
    dsimp only
    rw[if_pos rfl]
    refine wpS_bind (bK (getElem?_pos b ib (by lia)) ?_)
    have p2:=p1.pushB (show ib<b.size by lia) T.sb fun _=>by lia
    by_cases f1:(ib+1==b.size)=true
    ·rw[if_pos f1];exact wpS_pure ⟨hB1,.inl ⟨_,_,rfl,T.done p2 (by lia) (by simpa using f1)⟩⟩
    rw[if_neg f1]
    have g1:¬ (ib+1=b.size):=by simpa using f1
    split
    ·exact wpS_pure ⟨hB1,.inr ⟨_,_,_,_,_,rfl,p2,by lia,by lia,by lia⟩⟩
    ·exact wpS_pure ⟨hB1,_,_,_,_,_,rfl,p2,by lia,by lia,by lia⟩
   ·rw[decide_eq_false bw]
    dsimp only
    rw[if_neg (by decide)]
    refine wpS_bind (bK (getElem?_pos a ia (by lia)) ?_)
    have p2:=p1.pushA (show ia<a.size by lia) T.sa fun _=>by lia
    by_cases f1:(ia+1+1==a.size)=true
    ·rw[if_pos f1];exact wpS_pure ⟨hB1,.inl ⟨_,_,rfl,T.last p2 (by simpa using f1) (by lia)⟩⟩
    rw[if_neg f1]
    have g1:¬ (ia+1+1=a.size):=by simpa using f1
    split
    ·exact wpS_pure ⟨hB1,.inr ⟨_,_,_,_,_,rfl,p2,by lia,by lia,by lia⟩⟩
    ·exact wpS_pure ⟨hB1,_,_,_,_,_,rfl,p2,by lia,by lia,by lia⟩
  ·rintro c st2 ⟨hB1,out,ia,ib,ac,bc,rfl,p1,la,lb,li⟩
   exact⟨hB1,.inr ⟨_,_,_,_,_,rfl,p1,la,lb,by lia⟩⟩
  ·rintro c st2 ⟨hB1,⟨r,c',rfl,hp⟩|⟨out,ia,ib,ac,bc,rfl,p1,la,lb,li⟩⟩
   ·exact wpS_pure ⟨hB1,_,_,rfl,hp⟩
   ·dsimp only
    refine wpS_bind (wpS_lift (wpAny_rule ⟨rfl,?_⟩))
    refine wpS_bind (wpS_mono (wpS_forRange (I:=fun x c st'=>SM κ ar pd st'∧∃out ia ib mg ac bc,c=(none,out,ia,ib,mg,ac,bc)∧MI key a b out ia ib∧ia+1<a.size∧ib<b.size∧i+1≤ia+ib) (Q:=fun c st'=>SM κ ar pd st'∧((∃r c',c=(some r,c')∧Fi key a b r)∨∃out ia ib mg ac bc,c=(none,out,ia,ib,mg,ac,bc)∧MI key a b out ia ib∧ia+1<a.size∧ib<b.size∧i+1≤ia+ib)) ?_ ?_ ⟨hB1,_,_,_,_,_,_,rfl,p1,la,lb,li⟩) ?_)
    ·rintro x c st2 _ hx ⟨hB1,out,ia,ib,mg,ac,bc,rfl,p1,la,lb,li⟩
     change wpS (model prog w) A E s (if mg > 1 then loA a b out ia ib (mg-1) ac bc else loA a b out ia ib mg ac bc) _ st2
     split <;>
     ·refine wpS_mono (aCY hC T hB1 p1 la lb li) ?_
      rintro r st' ⟨m,⟨x,c,rfl,hf⟩|⟨out,ia,ib,mg,ac,bc,rfl|rfl,hh⟩⟩
      ·exact⟨m,.inl ⟨_,_,rfl,hf⟩⟩
      ·exact⟨m,.inr ⟨_,_,_,_,_,_,rfl,hh⟩⟩
      ·exact⟨m,_,_,_,_,_,_,rfl,hh⟩
    ·rintro c st2 ⟨hB1,hh⟩
     exact⟨hB1,.inr hh⟩
    ·rintro c st2 ⟨hB1,⟨r,c',rfl,hp⟩|⟨out,ia,ib,mg,ac,bc,rfl,p1,la,lb,li⟩⟩
     ·exact wpS_pure ⟨hB1,_,_,rfl,hp⟩
     ·dsimp only
      rw[eA]
      refine wpS_bind (wpS_modify ?_)
      exact wpS_pure ⟨⟨hB1.arr,hB1.kind,hB1.failed,hB1.pend⟩,_,_,_,_,rfl,p1,la,lb,li⟩
 ·rintro c st1 ⟨hB0,out,ia,ib,mg,rfl,p1,la,lb,li⟩
  lia
 ·rintro c st1 ⟨hB0,r,c',rfl,hp⟩
  exact wpS_pure (h r st1 hp hB0)
end
end PyProof.Rows
namespace PyProof.Rows
open PySem
abbrev HSt:=Option (Array Keyed)×Nat×Nat×Array Keyed×Nat×Nat×Nat
abbrev iO(a b out:Array Keyed)(na nb:Nat):=a.extract 0 na++b.extract 0 nb++out.reverse
abbrev jM(a b out:Array Keyed)(na nb:Nat):=b.extract 0 nb++a.extract 0 na++out.reverse
def hiC(a b:Array Keyed)(na nb:Nat)(out:Array Keyed)(mg ac bc:Nat):StateT SortSt Sem (ForInStep HSt):=do
 let x ← elem' a (na-1)
 if na-1==0 then pure (.done (some (iO a b (out.push x) (na-1) nb),na-1,nb,out.push x,mg,ac,bc))
 else if ac<7&&bc<7 then pure (.done (none,na-1,nb,out.push x,mg,ac,bc)) else pure (.yield (none,na-1,nb,out.push x,mg,ac,bc))
def hiB(a b:Array Keyed)(na nb:Nat)(out:Array Keyed)(mg ac bc:Nat):StateT SortSt Sem (ForInStep HSt):=do
 let x ← elem' b (nb-1)
 if nb-1==1 then pure (.done (some (jM a b (out.push x) na (nb-1)),na,nb-1,out.push x,mg,ac,bc))
 else do
  let some at_ ← dG true (← elem' a (na-1)) b 0 (nb-1) (nb-1-1)|pure (.done (some (iO a b (out.push x) na (nb-1)),na,nb-1,out.push x,mg,ac,bc))
  if nb-1-at_ > 0 then
   if at_==1 then pure (.done (some (jM a b (out.push x++(b.extract at_ (nb-1)).reverse) na at_),na,at_,out.push x++(b.extract at_ (nb-1)).reverse,mg,ac,nb-1-at_))
   else if at_==0 then pure (.done (some (iO a b (out.push x++(b.extract at_ (nb-1)).reverse) na at_),na,at_,out.push x++(b.extract at_ (nb-1)).reverse,mg,ac,nb-1-at_))
   else hiC a b na at_ (out.push x++(b.extract at_ (nb-1)).reverse) mg ac (nb-1-at_)
  else hiC a b na (nb-1) (out.push x) mg ac (nb-1-at_)
def hiA(a b:Array Keyed)(na nb:Nat)(out:Array Keyed)(mg ac bc:Nat):StateT SortSt Sem (ForInStep HSt):=do
 cW mg
 let some at_ ← dG false (← elem' b (nb-1)) a 0 na (na-1)|pure (.done (some (iO a b out na nb),na,nb,out,mg,ac,bc))
 if na-at_ > 0 then
  if at_==0 then pure (.done (some (iO a b (out++(a.extract at_ na).reverse) at_ nb),at_,nb,out++(a.extract at_ na).reverse,mg,na-at_,bc))
  else hiB a b at_ nb (out++(a.extract at_ na).reverse) mg (na-at_) bc
 else hiB a b na nb out mg (na-at_) bc
theorem vV(a b:Array Keyed):mY a b=(do
 rule "list.sort.merge-hi"
 let total:=a.size+b.size
 let done (out:Array Keyed) (na nb:Nat):=a.extract 0 na++b.extract 0 nb++out.reverse
 let firstOfB (out:Array Keyed) (na nb:Nat):=b.extract 0 nb++a.extract 0 na++out.reverse
 let mut na:=a.size-1
 let mut nb:=b.size
 let mut out:Array Keyed:=#[← elem' a na]
 if na==0 then return done out na nb
 if nb==1 then return firstOfB out na nb
 let mut minGallop:=gallopOf (← get)
 for _ in [0:total] do
  let mut acount:=0
  let mut bcount:=0
  for _ in [0:total] do
   let some aWins ← lt' (← elem' b (nb-1)) (← elem' a (na-1))|return done out na nb
   if aWins then
    na:=na-1;out:=out.push (← elem' a na);acount:=acount+1;bcount:=0
    if na==0 then return done out na nb
    if acount≥minGallop then break
   else
    nb:=nb-1;out:=out.push (← elem' b nb);bcount:=bcount+1;acount:=0
    if nb==1 then return firstOfB out na nb
    if bcount≥minGallop then break
  rule "list.sort.gallop"
  minGallop:=minGallop+1
  for _ in [0:total] do
   if minGallop > 1 then minGallop:=minGallop-1
   cW minGallop
   let some at_ ← dG false (← elem' b (nb-1)) a 0 na (na-1)|return done out na nb
   let k:=na-at_
   acount:=k
   if k > 0 then
    out:=out++(a.extract at_ na).reverse;na:=at_
    if na==0 then return done out na nb
   nb:=nb-1;out:=out.push (← elem' b nb)
   if nb==1 then return firstOfB out na nb
   let some at_ ← dG true (← elem' a (na-1)) b 0 nb (nb-1)|return done out na nb
   let k:=nb-at_
   bcount:=k
   if k > 0 then
    out:=out++(b.extract at_ nb).reverse;nb:=at_
    if nb==1 then return firstOfB out na nb
    if nb==0 then return done out na nb
   na:=na-1;out:=out.push (← elem' a na)
   if na==0 then return done out na nb
   if acount<7&&bcount<7 then break
  minGallop:=minGallop+1
  cW minGallop
 unsupported "internal:list.sort.merge-bound"):=rfl
def PH(a b out:Array Keyed)(na nb:Nat):Prop:=out.toList.Perm (a.toList.drop na++b.toList.drop nb)
theorem PH.pushA{a b out:Array Keyed}{na nb:Nat}(h:PH a b out na nb)(h1:1≤na)(hi:na-1<a.size):PH a b (out.push a[na-1]) (na-1) nb:=by
 unfold PH at h ⊢
 have e:a.toList.drop (na-1)=a[na-1]::a.toList.drop na:=by
  have:=List.drop_eq_getElem_cons (l:=a.toList) (i:=na-1) (by simpa using hi)
  rw[this,Nat.sub_add_cancel h1]
  simp
 rw[Array.toList_push,e]
 refine(h.append_right _).trans ?_
 exact List.perm_append_comm
theorem aCZ{a:Array Keyed}{k n:Nat}(h:k<n)(hn:n≤a.size):(a.extract k n).reverse=(a.extract (k+1) n).reverse.push a[k]:=by
 apply Array.toList_inj.mp
 rw[Array.toList_push,Array.toList_reverse,Array.toList_reverse,eC,eC]
 have e:=List.drop_eq_getElem_cons (l:=a.toList) (i:=k) (by simp;lia)
 rw[e,show n-k=(n-(k+1))+1 by lia,List.take_succ_cons,List.reverse_cons]
 congr 2
theorem tL{l:List Keyed}{i j:Nat}(h:i≤j):l.drop i=(l.drop i).take (j-i)++l.drop j:=by
 have:=(List.take_append_drop (j-i) (l.drop i)).symm
 rw[List.drop_drop,show i+(j-i)=j by lia] at this
 exact this
structure HI(key:Keyed→Int)(a b out:Array Keyed)(na nb:Nat):Prop where
 perm:PH a b out na nb
 so:out.toList.Pairwise fun x y=>key y≤key x
 la:∀x∈out.toList,0<na→kk key a (na-1)≤key x
 lb:∀x∈out.toList,0<nb→kk key b (nb-1)≤key x
section
variable {key:Keyed→Int} {a b out:Array Keyed} {na nb:Nat}
theorem HI.swap(h:HI key a b out na nb):HI key b a out nb na:=⟨h.perm.trans List.perm_append_comm,h.so,h.lb,h.la⟩
theorem HI.pushA(h:HI key a b out na nb)(h1:1≤na)(hi:na-1<a.size)(sa:So key a 0 a.size)(c:0<nb→kk key b (nb-1)≤kk key a (na-1)):HI key a b (out.push a[na-1]) (na-1) nb:=by
 refine⟨h.perm.pushA h1 hi,?_,fun x hx hl=>?_,fun x hx hl=>?_⟩
 ·rw[Array.toList_push]
  refine List.pairwise_append.mpr ⟨h.so,List.pairwise_singleton _ _,fun x hx y hy=>?_⟩
  rw[List.mem_singleton.mp hy,← cI (key:=key) hi]
  exact h.la x hx (by lia)
 ·rw[Array.toList_push] at hx
  have:=sa (na-1-1) (na-1) (by lia) (by lia) hi
  rcases List.mem_append.mp hx with z|z
  ·have:=h.la x z (by lia);lia
  ·rw[List.mem_singleton.mp z,← cI (key:=key) hi];exact this
 ·rw[Array.toList_push] at hx
  rcases List.mem_append.mp hx with z|z
  ·exact h.lb x z hl
  ·rw[List.mem_singleton.mp z,← cI (key:=key) hi];exact c hl
theorem HI.appA(h:HI key a b out na nb)(sa:So key a 0 a.size)(hn:na≤a.size):∀ (d k:Nat),na=k+d→(0<nb→∀i,k≤i→i<na→kk key b (nb-1)≤kk key a i)→HI key a b (out++(a.extract k na).reverse) k nb
 |0,k,e,_=>by
  have e':a.extract k na=#[]:=by simp;lia
  have e2:k=na:=by lia
  subst e2
  rw[e',Array.reverse_empty,Array.append_empty];exact h
 |d+1,k,e,c=>by
  have:=(HI.appA h sa hn d (k+1) (by lia) fun hb i h1 h2=>c hb i (by lia) h2).pushA (by lia) (by lia) sa fun hb=>c hb _ (by lia) (by lia)
  rw[aCZ (by lia) hn,← Array.push_append]
  exact this
theorem HI.pushB(h:HI key a b out na nb)(h1:1≤nb)(hi:nb-1<b.size)(sb:So key b 0 b.size)(c:0<na→kk key a (na-1)≤kk key b (nb-1)):HI key a b (out.push b[nb-1]) na (nb-1):=(h.swap.pushA h1 hi sb c).swap
theorem HI.appB(h:HI key a b out na nb)(sb:So key b 0 b.size)(hn:nb≤b.size)(k:Nat)(hk:k≤nb)(c:0<na→∀i,k≤i→i<nb→kk key a (na-1)≤kk key b i):HI key a b (out++(b.extract k nb).reverse) na k:=(h.swap.appA sb hn (nb-k) k (by lia) c).swap
theorem HI.first(h:HI key a b out na nb)(sa:So key a 0 a.size)(sb:So key b 0 b.size)(ha:na≤a.size)(hb:nb≤b.size)(c:0<nb→∀i,i<na→kk key b (nb-1)≤kk key a i):Fi key a b (jM a b out na nb):=by
 have h1:=h.appA sa ha na 0 (by lia) fun z i _ hi=>c z i hi
 have h2:=h1.appB sb hb 0 (by lia) fun z=>by lia
 have e:jM a b out na nb=(out++(a.extract 0 na).reverse++(b.extract 0 nb).reverse).reverse:=by simp
 rw[e]
 refine⟨?_,?_⟩
 ·have:=h2.perm
  unfold PH at this
  rw[List.drop_zero,List.drop_zero] at this
  rw[Array.perm_iff_toList_perm,Array.toList_reverse,Array.toList_append (xs:=a)]
  exact(List.reverse_perm _).trans this
 ·rw[Array.toList_reverse,List.pairwise_reverse]
  exact h2.so
theorem HI.done(h:HI key a b out na nb)(sa:So key a 0 a.size)(sb:So key b 0 b.size)(ha:na≤a.size)(hb:nb≤b.size)(c:0<na→∀i,i<nb→kk key a (na-1)≤kk key b i):Fi key a b (iO a b out na nb):=by
 have:=h.swap.first sb sa hb ha c
 refine⟨this.1.trans ?_,this.2⟩
 rw[Array.perm_iff_toList_perm,Array.toList_append,Array.toList_append]
 exact List.perm_append_comm
end
section
variable {prog:Program} {w:World} {A:Around} {E:Value→Shared→Prop} {s:Shared} {κ:SortKind} {a₀:Array Keyed} {pd:Array (Nat×Nat×Nat)} {ar:Array Keyed} {key:Keyed→Int}
theorem Two.first{a b:Array Keyed}(T:Two key a₀ a b){out:Array Keyed}{na nb:Nat}(h:HI key a b out na nb)(ha:na≤a.size)(hb:nb=1):Fi key a b (jM a b out na nb):=
 h.first T.sa T.sb ha (by have:=T.b1;lia) fun _ i hi=>by
  have h0:=T.c0
  have h1:=T.sa 0 i (by lia) (by lia) (by lia)
  rw[show nb-1=0 by lia]
  lia
theorem Two.doneH{a b:Array Keyed}(T:Two key a₀ a b){out:Array Keyed}{na nb:Nat}(h:HI key a b out na nb)(ha:na≤a.size)(hb:nb≤b.size)(hz:na=0∨nb=0):Fi key a b (iO a b out na nb):=
 h.done T.sa T.sb ha hb fun z i hi=>by lia
def GH(κ:SortKind)(ar:Array Keyed)(pd:Array (Nat×Nat×Nat))(key:Keyed→Int)(a b:Array Keyed)(n:Nat)(r:ForInStep HSt)(st:SortSt):Prop:=SM κ ar pd st∧
 ((∃x c,r=.done (some x,c)∧Fi key a b x)∨∃na nb out mg ac bc,(r=.done (none,na,nb,out,mg,ac,bc)∨r=.yield (none,na,nb,out,mg,ac,bc))∧HI key a b out na nb∧1≤na∧2≤nb∧na≤a.size∧nb≤b.size∧n+na+nb≤a.size+b.size)
theorem wV{st:SortSt}{a b out:Array Keyed}{na nb mg ac bc n:Nat}(T:Two key a₀ a b)(hB:SM κ ar pd st)(h:HI key a b out na nb)(la:1≤na)(lb:2≤nb)(ma:na≤a.size)(mb:nb≤b.size)(li:n+na+nb≤a.size+b.size)(c:kk key b (nb-1)≤kk key a (na-1)):
  wpS (model prog w) A E s (hiC a b na nb out mg ac bc) (GH κ ar pd key a b n) st:=by
 unfold hiC
 refine wpS_bind (bK (getElem?_pos a (na-1) (by lia)) ?_)
 have p:=h.pushA la (show na-1<a.size by lia) T.sa fun _=>c
 by_cases f:(na-1==0)=true
 ·rw[if_pos f];exact wpS_pure ⟨hB,.inl ⟨_,_,rfl,T.doneH p (by lia) (by lia) (.inl (by simpa using f))⟩⟩
 rw[if_neg f]
 have g:¬ (na-1=0):=by simpa using f
 split
 ·exact wpS_pure ⟨hB,.inr ⟨_,_,_,_,_,_,.inl rfl,p,by lia,by lia,by lia,by lia,by lia⟩⟩
 ·exact wpS_pure ⟨hB,.inr ⟨_,_,_,_,_,_,.inr rfl,p,by lia,by lia,by lia,by lia,by lia⟩⟩
theorem wW{st:SortSt}{a b out:Array Keyed}{na nb mg ac bc n:Nat}(hC:Cmp prog w A s κ a₀ key)(T:Two key a₀ a b)(hB:SM κ ar pd st)(h:HI key a b out na nb)(la:1≤na)(lb:2≤nb)(ma:na≤a.size)(mb:nb≤b.size)(li:n+na+nb≤a.size+b.size)(c:kk key a (na-1)≤kk key b (nb-1)):
  wpS (model prog w) A E s (hiB a b na nb out mg ac bc) (GH κ ar pd key a b n) st:=by
 unfold hiB
 refine wpS_bind (bK (getElem?_pos b (nb-1) (by lia)) ?_)
 have p:=h.pushB (by lia) (show nb-1<b.size by lia) T.sb fun _=>c
 by_cases f:(nb-1==1)=true
 ·rw[if_pos f];exact wpS_pure ⟨hB,.inl ⟨_,_,rfl,T.first p (by lia) (by simpa using f)⟩⟩
 rw[if_neg f]
 have g:¬ (nb-1=1):=by simpa using f
 refine wpS_bind (bK (getElem?_pos a (na-1) (by lia)) ?_)
 refine wpS_bind (eN hC hB.kind (T.ha _ (by simp)) T.hb (by lia) (by lia) (fun i j h1 h2 h3=>T.sb i j (by lia) h2 (by lia)) fun k hk q1 q2=>?_)
 rw[← cI (key:=key) (a:=a) (i:=na-1) (by lia)] at q1 q2
 simp only[thr,if_true,Nat.zero_add] at q1 q2
 dsimp only
 by_cases kp:nb-1-k > 0
 ·rw[if_pos kp]
  have p2:=p.appB T.sb (by lia) k hk fun _ i h1 h2=>q2 i h1 h2
  by_cases f2:(k==1)=true
  ·rw[if_pos f2];exact wpS_pure ⟨hB,.inl ⟨_,_,rfl,T.first p2 (by lia) (by simpa using f2)⟩⟩
  rw[if_neg f2]
  have g2:¬ (k=1):=by simpa using f2
  by_cases f6:(k==0)=true
  ·rw[if_pos f6];exact wpS_pure ⟨hB,.inl ⟨_,_,rfl,T.doneH p2 (by lia) (by lia) (.inr (by simpa using f6))⟩⟩
  rw[if_neg f6]
  have g6:¬ (k=0):=by simpa using f6
  exact wV T hB p2 la (by lia) ma (by lia) (by lia) (by have:=q1 (k-1) (by lia);lia)
 ·rw[if_neg kp]
  have e:k=nb-1:=by lia
  subst e
  exact wV T hB p la (by lia) ma (by lia) (by lia) (by have:=q1 (nb-1-1) (by lia);lia)
theorem aC0{st:SortSt}{a b out:Array Keyed}{na nb mg ac bc n:Nat}(hC:Cmp prog w A s κ a₀ key)(T:Two key a₀ a b)(hB:SM κ ar pd st)(h:HI key a b out na nb)(la:1≤na)(lb:2≤nb)(ma:na≤a.size)(mb:nb≤b.size)(li:n+na+nb≤a.size+b.size):
  wpS (model prog w) A E s (hiA a b na nb out mg ac bc) (GH κ ar pd key a b n) st:=by
 unfold hiA
 rw[eA]
 refine wpS_bind (wpS_modify ?_)
 have hB2:SM κ ar pd (SortSt.mk' (kindOf st) (arrOf st) (pendingOf st) mg (failedOf st)):=⟨hB.arr,hB.kind,hB.failed,hB.pend⟩
 refine wpS_bind (bK (getElem?_pos b (nb-1) (by lia)) ?_)
 refine wpS_bind (eN hC hB2.kind (T.hb _ (by simp)) T.ha (by lia) (by lia) (fun i j h1 h2 h3=>T.sa i j (by lia) h2 (by lia)) fun k hk q1 q2=>?_)
 rw[← cI (key:=key) (a:=b) (i:=nb-1) (by lia)] at q1 q2
 simp only[thr,Bool.false_eq_true,if_false,Nat.zero_add] at q1 q2
 dsimp only
 by_cases kp:na-k > 0
 ·rw[if_pos kp]
  have p2:=h.appA T.sa ma (na-k) k (by lia) fun _ i h1 h2=>by have:=q2 i h1 h2;lia
  by_cases f4:(k==0)=true
  ·rw[if_pos f4];exact wpS_pure ⟨hB2,.inl ⟨_,_,rfl,T.doneH p2 (by lia) (by lia) (.inl (by simpa using f4))⟩⟩
  rw[if_neg f4]
  have g4:¬ (k=0):=by simpa using f4
  exact wW hC T hB2 p2 (by lia) lb (by lia) mb (by lia) (by have:=q1 (k-1) (by lia);lia)
 ·rw[if_neg kp]
  have e:k=na:=by lia
  subst e
  exact wW hC T hB2 h la lb ma mb li (by have:=q1 (k-1) (by lia);lia)
theorem vW{st:SortSt}{a b:Array Keyed}{Q:Array Keyed→SortSt→Prop}(hC:Cmp prog w A s κ a₀ key)(hB:SM κ ar pd st)(T:Two key a₀ a b)(h:∀out st',Fi key a b out→SM κ ar pd st'→Q out st'):wpS (model prog w) A E s (mY a b) Q st:=by
 have a1:=T.a1
 have b1:=T.b1
 rw[vV]
 refine wpS_bind (wpS_lift (wpAny_rule ⟨rfl,?_⟩))
 refine wpS_bind (bK (getElem?_pos a (a.size-1) (by lia)) ?_)
 dsimp only
 have p0:HI key a b #[a[a.size-1]] (a.size-1) b.size:=by
  have:HI key a b #[] a.size b.size:=⟨by unfold PH;simp,List.Pairwise.nil,fun x hx=>by simp at hx,fun x hx=>by simp at hx⟩
  exact this.pushA a1 (by lia) T.sa fun _=>T.c1 _ (by lia)
 by_cases e1:(a.size-1==0)=true
 ·rw[if_pos e1]
  exact wpS_pure (h _ _ (T.doneH p0 (by lia) (by lia) (.inl (by simpa using e1))) hB)
 rw[if_neg e1]
 have n1:¬ (a.size-1=0):=by simpa using e1
 by_cases e2:(b.size==1)=true
 ·rw[if_pos e2]
  exact wpS_pure (h _ _ (T.first p0 (by lia) (by simpa using e2)) hB)
 rw[if_neg e2]
 have n2:¬ (b.size=1):=by simpa using e2
 refine wpS_bind (wpS_get ?_)
 refine wpS_bind (wpS_mono (wpS_forRange (I:=fun i c st'=>SM κ ar pd st'∧∃na nb out mg,c=(none,na,nb,out,mg)∧HI key a b out na nb∧1≤na∧2≤nb∧na≤a.size∧nb≤b.size∧i+na+nb≤a.size+b.size) (Q:=fun c st'=>SM κ ar pd st'∧∃r c',c=(some r,c')∧Fi key a b r) ?_ ?_ ⟨hB,_,_,_,_,rfl,p0,by lia,by lia,by lia,by lia,by lia⟩) ?_)
 ·rintro i c st1 _ hi ⟨hB0,na,nb,out,mg,rfl,p1,la,lb,ma,mb,li⟩
  dsimp only
  refine wpS_bind (wpS_mono (wpS_forRange (I:=fun x c st'=>SM κ ar pd st'∧∃na nb out ac bc,c=(none,na,nb,out,ac,bc)∧HI key a b out na nb∧1≤na∧2≤nb∧na≤a.size∧nb≤b.size∧i+x+na+nb≤a.size+b.size) (Q:=fun c st'=>SM κ ar pd st'∧((∃r c',c=(some r,c')∧Fi key a b r)∨∃na nb out ac bc,c=(none,na,nb,out,ac,bc)∧HI key a b out na nb∧1≤na∧2≤nb∧na≤a.size∧nb≤b.size∧i+1+na+nb≤a.size+b.size)) ?_ ?_ ⟨hB0,_,_,_,_,_,rfl,p1,la,lb,ma,mb,by lia⟩) ?_)
  ·rintro x c st2 _ hx ⟨hB1,na,nb,out,ac,bc,rfl,p1,la,lb,ma,mb,li⟩
   dsimp only
   refine wpS_bind (bK (getElem?_pos b (nb-1) (by lia)) ?_)
   refine wpS_bind (bK (getElem?_pos a (na-1) (by lia)) ?_)
   refine wpS_bind (kZ hC hB1.kind (T.hb _ (by simp)) (T.ha _ (by simp)) ?_)
   rw[← cI (key:=key) (a:=b) (i:=nb-1) (by lia),← cI (key:=key) (a:=a) (i:=na-1) (by lia)]
   by_cases aw:kk key b (nb-1)<kk key a (na-1)
   ·rw[decide_eq_true aw]
    dsimp only
    rw[if_pos rfl]
    refine wpS_bind (bK (getElem?_pos a (na-1) (by lia)) ?_)
    have p2:=p1.pushA (show 1≤na by lia) (show na-1<a.size by lia) T.sa fun _=>by lia
    by_cases f1:(na-1==0)=true
    ·rw[if_pos f1];exact wpS_pure ⟨hB1,.inl ⟨_,_,rfl,T.doneH p2 (by lia) (by lia) (.inl (by simpa using f1))⟩⟩
    rw[if_neg f1]
    have g1:¬ (na-1=0):=by simpa using f1
    split
    ·exact wpS_pure ⟨hB1,.inr ⟨_,_,_,_,_,rfl,p2,by lia,by lia,by lia,by lia,by lia⟩⟩
    ·exact wpS_pure ⟨hB1,_,_,_,_,_,rfl,p2,by lia,by lia,by lia,by lia,by lia⟩
   ·rw[decide_eq_false aw]
    dsimp only
    rw[if_neg (by decide)]
    refine wpS_bind (bK (getElem?_pos b (nb-1) (by lia)) ?_)
    have p2:=p1.pushB (show 1≤nb by lia) (show nb-1<b.size by lia) T.sb fun _=>by lia
    by_cases f1:(nb-1==1)=true
    ·rw[if_pos f1];exact wpS_pure ⟨hB1,.inl ⟨_,_,rfl,T.first p2 (by lia) (by simpa using f1)⟩⟩
    rw[if_neg f1]
    have g1:¬ (nb-1=1):=by simpa using f1
    split
    ·exact wpS_pure ⟨hB1,.inr ⟨_,_,_,_,_,rfl,p2,by lia,by lia,by lia,by lia,by lia⟩⟩
    ·exact wpS_pure ⟨hB1,_,_,_,_,_,rfl,p2,by lia,by lia,by lia,by lia,by lia⟩
  ·rintro c st2 ⟨hB1,na,nb,out,ac,bc,rfl,p1,la,lb,ma,mb,li⟩
   exact⟨hB1,.inr ⟨_,_,_,_,_,rfl,p1,la,lb,ma,mb,by lia⟩⟩
  ·rintro c st2 ⟨hB1,⟨r,c',rfl,hp⟩|⟨na,nb,out,ac,bc,rfl,p1,la,lb,ma,mb,li⟩⟩
   ·exact wpS_pure ⟨hB1,_,_,rfl,hp⟩
   ·dsimp only
    refine wpS_bind (wpS_lift (wpAny_rule ⟨rfl,?_⟩))
    refine wpS_bind (wpS_mono (wpS_forRange (I:=fun x c st'=>SM κ ar pd st'∧∃na nb out mg ac bc,c=(none,na,nb,out,mg,ac,bc)∧HI key a b out na nb∧1≤na∧2≤nb∧na≤a.size∧nb≤b.size∧i+1+na+nb≤a.size+b.size) (Q:=fun c st'=>SM κ ar pd st'∧((∃r c',c=(some r,c')∧Fi key a b r)∨∃na nb out mg ac bc,c=(none,na,nb,out,mg,ac,bc)∧HI key a b out na nb∧1≤na∧2≤nb∧na≤a.size∧nb≤b.size∧i+1+na+nb≤a.size+b.size)) ?_ ?_ ⟨hB1,_,_,_,_,_,_,rfl,p1,la,lb,ma,mb,li⟩) ?_)
    ·rintro x c st2 _ hx ⟨hB1,na,nb,out,mg,ac,bc,rfl,p1,la,lb,ma,mb,li⟩
     change wpS (model prog w) A E s (if mg > 1 then hiA a b na nb out (mg-1) ac bc else hiA a b na nb out mg ac bc) _ st2
     split <;>
     ·refine wpS_mono (aC0 hC T hB1 p1 la lb ma mb li) ?_
      rintro r st' ⟨m,⟨x,c,rfl,hf⟩|⟨na,nb,out,mg,ac,bc,rfl|rfl,hh⟩⟩
      ·exact⟨m,.inl ⟨_,_,rfl,hf⟩⟩
      ·exact⟨m,.inr ⟨_,_,_,_,_,_,rfl,hh⟩⟩
      ·exact⟨m,_,_,_,_,_,_,rfl,hh⟩
    ·rintro c st2 ⟨hB1,hh⟩
     exact⟨hB1,.inr hh⟩
    ·rintro c st2 ⟨hB1,⟨r,c',rfl,hp⟩|⟨na,nb,out,mg,ac,bc,rfl,p1,la,lb,ma,mb,li⟩⟩
     ·exact wpS_pure ⟨hB1,_,_,rfl,hp⟩
     ·dsimp only
      rw[eA]
      refine wpS_bind (wpS_modify ?_)
      exact wpS_pure ⟨⟨hB1.arr,hB1.kind,hB1.failed,hB1.pend⟩,_,_,_,_,rfl,p1,la,lb,ma,mb,li⟩
 ·rintro c st1 ⟨hB0,na,nb,out,mg,rfl,p1,la,lb,ma,mb,li⟩
  lia
 ·rintro c st1 ⟨hB0,r,c',rfl,hp⟩
  exact wpS_pure (h r st1 hp hB0)
end
end PyProof.Rows
namespace PyProof.Rows
open PySem
abbrev Run:=Nat×Nat×Nat
def Runs(key:Keyed→Int)(a:Array Keyed):List Run→Nat→Nat→Prop
 |[],s,e=>s=e
 |r::rs,s,e=>r.1=s∧1≤r.2.1∧So key a s (s+r.2.1)∧Runs key a rs (s+r.2.1) e
section
variable {key:Keyed→Int} {a:Array Keyed}
theorem Runs.le:∀ {l:List Run} {s e:Nat},Runs key a l s e→s+l.length≤e
 |[],_,_,h=>Nat.le_of_eq h
 |r::rs,s,e,⟨_,h2,_,h3⟩=>by have:=h3.le;rw[List.length_cons];lia
theorem So.keep{a a':Array Keyed}{s e:Nat}(h:So key a s e)(k:∀i,s≤i→i<e→a'[i]?=a[i]?):So key a' s e:=fun i j h1 h2 h3=>by
 rw[eK (k i h1 (by lia)),eK (k j (by lia) h3)]
 exact h i j h1 h2 h3
theorem Runs.keep{a':Array Keyed}:∀ {l:List Run} {s e:Nat},Runs key a l s e→(∀i,s≤i→i<e→a'[i]?=a[i]?)→Runs key a' l s e
 |[],_,_,h,_=>h
 |r::rs,s,e,⟨h1,h2,h3,h4⟩,k=>by
  have:=h4.le
  exact⟨h1,h2,h3.keep fun i a b=>k i a (by lia),h4.keep fun i a b=>k i (by lia) b⟩
theorem Runs.two:∀ {l:List Run} {s e i:Nat} {x y:Run},Runs key a l s e→l[i]?=some x→l[i+1]?=some y→
  s≤x.1∧x.1+x.2.1=y.1∧y.1+y.2.1≤e∧1≤x.2.1∧1≤y.2.1∧So key a x.1 y.1∧So key a y.1 (y.1+y.2.1)∧∀p a',Out a a' x.1 (y.1+y.2.1)→So key a' x.1 (y.1+y.2.1)→Runs key a' ((l.set i (x.1,x.2.1+y.2.1,p)).eraseIdx (i+1)) s e
 |r::q::rs,s,e,0,x,y,⟨h1,h2,h3,h4,h5,h6,h7⟩,hx,hy=>by
  obtain rfl:=Option.some.inj hx
  obtain rfl:=Option.some.inj hy
  have:=h7.le
  rw[h1,h4]
  refine⟨Nat.le_refl _,rfl,by lia,h2,h5,h3,h6,fun p a' o so=>⟨rfl,by show 1≤r.2.1+q.2.1;lia,?_,?_⟩⟩
  ·show So key a' s (s+(r.2.1+q.2.1))
   rw[← Nat.add_assoc];exact so
  ·show Runs key a' rs (s+(r.2.1+q.2.1)) e
   rw[← Nat.add_assoc];exact h7.keep fun i a b=>o i (.inr a)
 |r::rs,s,e,i+1,x,y,⟨h1,h2,h3,h4⟩,hx,hy=>by
  obtain⟨a0,a1,a2,a3,a4,a5,a6,a7⟩:=Runs.two (i:=i) h4 hx hy
  exact⟨by lia,a1,a2,a3,a4,a5,a6,fun p a' o so=>⟨h1,h2,h3.keep fun i a b=>o i (.inl (by lia)),a7 p a' o so⟩⟩
theorem Runs.push:∀ {l:List Run} {s e n p:Nat},Runs key a l s e→1≤n→So key a e (e+n)→Runs key a (l++[(e,n,p)]) s (e+n)
 |[],s,e,n,p,h,hn,so=>⟨h.symm,hn,by rw[show s=e from h];exact so,by rw[show s=e from h];rfl⟩
 |r::rs,s,e,n,p,⟨h1,h2,h3,h4⟩,hn,so=>⟨h1,h2,h3,Runs.push h4 hn so⟩
theorem Runs.pw:∀ {l:List Run} {s e:Nat} (i p:Nat),Runs key a l s e→Runs key a (l.modify i fun r=>(r.1,r.2.1,p)) s e
 |[],s,e,i,p,h=>by cases i <;> exact h
 |r::rs,s,e,0,p,⟨h1,h2,h3⟩=>⟨h1,h2,h3⟩
 |r::rs,s,e,i+1,p,⟨h1,h2,h3,h4⟩=>⟨h1,h2,h3,Runs.pw i p h4⟩
end
theorem aC1{M:Model}{A:Around}{E:Value→Shared→Prop}{s:Shared}{σ:Type}{x:σ}{Q:PUnit→σ→Prop}{st:σ}(h:Q ⟨⟩ x):wpS M A E s (set x:StateT σ Sem PUnit) Q st:=by
 unfold wpS;rw[StateT.run_set];exact wpAny_pure ⟨rfl,h⟩
theorem vX(i:Nat):mergeAt' i=(do
 let s ← get
 let (some (sa,na,power),some (sb,nb,_)):=((pendingOf s)[i]?,(pendingOf s)[i+1]?)|unsupported "internal:list.sort.pending"
 set (setPending s (((pendingOf s).setIfInBounds i (sa,na+nb,power)).eraseIdxIfInBounds (i+1)))
 let some k ← dG false (← elem' (arrOf s) sb) (arrOf s) sa na 0|return false
 let (sa,na):=(sa+k,na-k)
 if na==0 then return true
 let some nb ← dG true (← elem' (arrOf s) (sa+na-1)) (arrOf s) sb nb (nb-1)|return false
 if nb==0 then return true
 let x:=(arrOf s).extract sa sb
 let y:=(arrOf s).extract sb (sb+nb)
 let merged ← if na≤nb then mX x y else mY x y
 modify fun s=>setArr s (merged.toList.zipIdx.foldl (fun a (p,j)=>a.setIfInBounds (sa+j) p) (arrOf s))
 return (failedOf (← get)).isNone):=rfl
theorem oC{sa:Nat}:∀ (l:List Keyed) (k:Nat) (arr:Array Keyed),sa+k+l.length≤arr.size→
  ((l.zipIdx k).foldl (fun (a:Array Keyed) (x:Keyed×Nat)=>a.setIfInBounds (sa+x.2) x.1) arr).toList=arr.toList.take (sa+k)++l++arr.toList.drop (sa+k+l.length)
 |[],k,arr,_=>by simp
 |x::l,k,arr,h=>by
  rw[List.length_cons] at h
  have hs:sa+k<arr.toList.length:=by rw[Array.length_toList];lia
  rw[List.zipIdx_cons,List.foldl_cons,oC l (k+1) _ (by rw[Array.size_setIfInBounds];lia),Array.toList_setIfInBounds]
  dsimp only
  have e1:(arr.toList.set (sa+k) x).take (sa+(k+1))=arr.toList.take (sa+k)++[x]:=by
   rw[← Nat.add_assoc,List.take_add_one,List.getElem?_set_self hs,List.take_set_of_le (Nat.le_refl _)]
   rfl
  have e2:(arr.toList.set (sa+k) x).drop (sa+(k+1)+l.length)=arr.toList.drop (sa+k+(x::l).length):=by
   rw[List.drop_set_of_lt (by lia),List.length_cons]
   congr 1;lia
  rw[e1,e2,List.append_assoc,List.append_assoc,List.append_assoc]
  rfl
section
variable {prog:Program} {w:World} {A:Around} {E:Value→Shared→Prop} {s:Shared} {κ:SortKind} {a₀:Array Keyed} {key:Keyed→Int}
theorem pH{a:Array Keyed}{i:Nat}:kk key a i=(a.toList[i]?.map key).getD 0:=by unfold kk;rw[Array.getElem?_toList]
theorem eR{a:Array Keyed}{i j k:Nat}(h:k<j-i):kk key (a.extract i j) k=kk key a (i+k):=by
 rw[pH,pH,eC,List.getElem?_take,if_pos h,List.getElem?_drop]
def SR(κ:SortKind)(a₀:Array Keyed)(key:Keyed→Int)(lo:Nat)(st:SortSt):Prop:=∃pd,SQ κ a₀ pd st∧Runs key (arrOf st) pd.toList 0 lo∧lo≤a₀.size
theorem aC2{a a':Array Keyed}{out:List Keyed}{sa k sb k2 e:Nat}(h1:sa+k≤sb)(h2:sb+k2≤e)(he:e≤a.size)(hl:out.length=sb+k2-(sa+k))(wl:a'.toList=a.toList.take (sa+k)++out++a.toList.drop (sb+k2))(s1:So key a sa sb)(s2:So key a sb e)(so:out.Pairwise fun x y=>key x≤key y){b t:Int}(g1:∀i,sa≤i→i<sa+k→kk key a i≤b)(g2:∀i,sb+k2≤i→i<e→t≤kk key a i)(go:∀x∈out,b≤key x∧key x≤t)(gb:∀i,sb+k2≤i→i<e→b≤kk key a i):
  So key a' sa e∧Out a a' sa e:=by
 have tl:(a.toList.take (sa+k)).length=sa+k:=by rw[List.length_take,Array.length_toList];lia
 have p1:∀i,i<sa+k→a'[i]?=a[i]?:=fun i hi=>by
  rw[← Array.getElem?_toList,wl,List.append_assoc,List.getElem?_append_left (by rw[tl];exact hi),List.getElem?_take,if_pos hi,Array.getElem?_toList]
 have p3:∀i,sb+k2≤i→a'[i]?=a[i]?:=fun i hi=>by
  rw[← Array.getElem?_toList,wl,List.getElem?_append_right (by rw[List.length_append,tl,hl];lia),List.length_append,tl,hl,List.getElem?_drop,Array.getElem?_toList]
  congr 1;lia
 have p2:∀i,sa+k≤i→i<sb+k2→∃h:i-(sa+k)<out.length,kk key a' i=key out[i-(sa+k)]:=fun i hi hi'=>by
  have hh:i-(sa+k)<out.length:=by lia
  refine⟨hh,?_⟩
  rw[pH,wl,List.append_assoc,List.getElem?_append_right (by rw[tl];exact hi),tl,List.getElem?_append_left hh,List.getElem?_eq_getElem hh];rfl
 refine⟨fun i j hi hij hj=>?_,fun i hi=>?_⟩
 ·by_cases c1:i<sa+k
  ·rw[eK (p1 i c1)]
   by_cases c2:j<sa+k
   ·rw[eK (p1 j c2)];exact s1 i j hi hij (by lia)
   ·have:=g1 i hi c1
    by_cases c3:j<sb+k2
    ·obtain⟨hh,e⟩:=p2 j (by lia) c3
     have:=(go _ (List.getElem_mem hh)).1
     rw[e];lia
    ·rw[eK (p3 j (by lia))]
     have:=gb j (by lia) hj
     lia
  ·by_cases c2:i<sb+k2
   ·obtain⟨hh,ei⟩:=p2 i (by lia) c2
    rw[ei]
    by_cases c3:j<sb+k2
    ·obtain⟨hh',ej⟩:=p2 j (by lia) c3
     rw[ej]
     by_cases c4:i=j
     ·subst c4;exact Int.le_refl _
     ·exact List.pairwise_iff_getElem.mp so _ _ hh hh' (by lia)
    ·rw[eK (p3 j (by lia))]
     have:=(go _ (List.getElem_mem hh)).2
     have:=g2 j (by lia) hj
     lia
   ·rw[eK (p3 i (by lia)),eK (p3 j (by lia))]
    exact s2 i j (by lia) hij hj
 ·rcases hi with hi|hi
  ·exact p1 i (by lia)
  ·exact p3 i (by lia)
theorem jD{st:SortSt}{i lo:Nat}{Q:Bool→SortSt→Prop}(hC:Cmp prog w A s κ a₀ key)(hB:SR κ a₀ key lo st)(hi:i+1<(pendingOf st).size)(h:∀st',SR κ a₀ key lo st'→Out (arrOf st) (arrOf st') 0 lo→(pendingOf st').size+1=(pendingOf st).size→Q true st'):wpS (model prog w) A E s (mergeAt' i) Q st:=by
 obtain⟨pd,hq,hr,hlo⟩:=hB
 rw[hq.pend] at hi h
 rw[vX]
 refine wpS_bind (wpS_get ?_)
 have e1:pd[i]?=some pd[i]:=getElem?_pos pd i (by lia)
 have e2:pd[i+1]?=some pd[i+1]:=getElem?_pos pd (i+1) hi
 obtain⟨_,a1,a2,a3,a4,b1,b2,a5⟩:=hr.two (i:=i) (x:=pd[i]) (y:=pd[i+1]) (by simpa using e1) (by simpa using e2)
 rw[hq.pend,e1,e2]
 revert a1 a2 a3 a4 a5 b1 b2
 generalize pd[i]=x
 generalize pd[i+1]=y
 obtain⟨sa,na,pw⟩:=x
 obtain⟨sb,nb,pw2⟩:=y
 intro a1 a2 a3 a4 b1 b2 a5
 dsimp only at a1 a2 a3 a4 a5 b1 b2 ⊢
 obtain⟨pd',hpd'⟩:∃pd',pd'=(pd.setIfInBounds i (sa,na+nb,pw)).eraseIdxIfInBounds (i+1):=⟨_,rfl⟩
 have hps:pd'.size+1=pd.size:=by
  rw[hpd',← Array.length_toList,Array.toList_eraseIdxIfInBounds,Array.toList_setIfInBounds,List.length_eraseIdx,List.length_set,if_pos (by simpa using hi),Array.length_toList]
  lia
 have hr':∀a',Out (arrOf st) a' sa (sb+nb)→So key a' sa (sb+nb)→Runs key a' pd'.toList 0 lo:=by
  intro a' o so
  rw[hpd',Array.toList_eraseIdxIfInBounds,Array.toList_setIfInBounds]
  exact a5 pw a' o so
 refine wpS_bind (aC1 ?_)
 rw[← hpd']
 have hq1:SM κ (arrOf st) pd' (setPending st pd'):=⟨rfl,hq.kind,hq.failed,rfl⟩
 have hsz:=hq.size
 have hin:∀x∈(arrOf st).toList,x∈a₀.toList:=fun x hx=>(Array.perm_iff_toList_perm.mp hq.perm).mem_iff.mp hx
 have fin:∀st',SM κ (arrOf st) pd' st'→So key (arrOf st) sa (sb+nb)→Q true st':=fun st' m so=>h st' ⟨pd',⟨by rw[m.arr];exact hq.perm,m.kind,m.failed,m.pend⟩,by rw[m.arr];exact hr' _ Out.refl so,hlo⟩ (by rw[m.arr];exact Out.refl) (by rw[m.pend];exact hps)
 refine wpS_bind (bK (getElem?_pos (arrOf st) sb (by lia)) ?_)
 refine wpS_bind (eN hC hq1.kind (hin _ (by simp)) hin (by lia) (by lia) (by rw[a1];exact b1) fun k hk q1 q2=>?_)
 rw[← cI (key:=key) (a:=arrOf st) (i:=sb) (by lia)] at q1 q2
 simp only[thr,Bool.false_eq_true,if_false] at q1 q2
 dsimp only
 by_cases f1:(na-k==0)=true
 ·rw[if_pos f1]
  have g1:na-k=0:=by simpa using f1
  refine wpS_pure (fin _ hq1 fun i j h1 h2 h3=>?_)
  by_cases c1:j<sb
  ·exact b1 i j h1 h2 c1
  ·by_cases c2:i<sb
   ·have:=q1 (i-sa) (by lia)
    rw[show sa+(i-sa)=i by lia] at this
    have:=b2 sb j (by lia) (by lia) h3
    lia
   ·exact b2 i j (by lia) h2 h3
 rw[if_neg f1]
 have g1:¬ (na-k=0):=by simpa using f1
 have el:sa+k+(na-k)-1=sb-1:=by lia
 rw[el]
 refine wpS_bind (bK (getElem?_pos (arrOf st) (sb-1) (by lia)) ?_)
 refine wpS_bind (eN hC hq1.kind (hin _ (by simp)) hin (by lia) (by lia) b2 fun k2 hk2 q3 q4=>?_)
 rw[← cI (key:=key) (a:=arrOf st) (i:=sb-1) (by lia)] at q3 q4
 simp only[thr,if_true] at q3 q4
 dsimp only
 by_cases f2:(k2==0)=true
 ·rw[if_pos f2]
  have g2:k2=0:=by simpa using f2
  refine wpS_pure (fin _ hq1 fun i j h1 h2 h3=>?_)
  by_cases c1:j<sb
  ·exact b1 i j h1 h2 c1
  ·by_cases c2:i<sb
   ·have:=q4 (j-sb) (by lia) (by lia)
    rw[show sb+(j-sb)=j by lia] at this
    have:=b1 i (sb-1) h1 (by lia) (by lia)
    lia
   ·exact b2 i j (by lia) h2 h3
 rw[if_neg f2]
 have g2:¬ (k2=0):=by simpa using f2
 have sx:((arrOf st).extract (sa+k) sb).size=sb-(sa+k):=by rw[Array.size_extract];lia
 have sy:((arrOf st).extract sb (sb+k2)).size=k2:=by rw[Array.size_extract];lia
 have T:Two key a₀ ((arrOf st).extract (sa+k) sb) ((arrOf st).extract sb (sb+k2)):=by
  refine⟨fun x hx=>hin x (by rw[eC] at hx;exact List.mem_of_mem_drop (List.mem_of_mem_take hx)),fun x hx=>hin x (by rw[eC] at hx;exact List.mem_of_mem_drop (List.mem_of_mem_take hx)),by lia,by lia,fun i j h1 h2 h3=>?_,fun i j h1 h2 h3=>?_,?_,fun i hi=>?_⟩
  ·rw[sx] at h3
   rw[eR (by lia),eR (by lia)]
   exact b1 _ _ (by lia) (by lia) (by lia)
  ·rw[sy] at h3
   rw[eR (by lia),eR (by lia)]
   exact b2 _ _ (by lia) (by lia) (by lia)
  ·rw[eR (by lia),eR (by lia)]
   have:=q2 k (by lia) (by lia)
   rw[Nat.add_zero,Nat.add_zero]
   lia
  ·rw[sy] at hi
   rw[sx,eR (by lia),eR (by lia)]
   have:=q3 i hi
   rw[show sa+k+(sb-(sa+k)-1)=sb-1 by lia]
   lia
 have last:∀ (out:Array Keyed) (st':SortSt),Fi key ((arrOf st).extract (sa+k) sb) ((arrOf st).extract sb (sb+k2)) out→SM κ (arrOf st) pd' st'→wpS (model prog w) A E s (do
   modify fun s=>setArr s (out.toList.zipIdx.foldl (fun a (p,j)=>a.setIfInBounds (sa+k+j) p) (arrOf s))
   return (failedOf (← get)).isNone) Q st':=by
  intro out st' hF m
  obtain⟨hp,so⟩:=hF
  refine wpS_bind (wpS_modify ?_)
  refine wpS_bind (wpS_get (wpS_pure ?_))
  have osz:out.toList.length=sb-(sa+k)+k2:=by
   rw[Array.length_toList,hp.size_eq,Array.size_append,sx,sy]
  have wl:=oC (sa:=sa+k) out.toList 0 (arrOf st') (by rw[m.arr,osz];lia)
  have e3:sa+k+(sb-(sa+k)+k2)=sb+k2:=by lia
  rw[m.arr,osz,Nat.add_zero,e3] at wl
  have hp':=Array.perm_iff_toList_perm.mp hp
  rw[Array.toList_append] at hp'
  have pm:(out.toList.zipIdx.foldl (fun a (p,j)=>a.setIfInBounds (sa+k+j) p) (arrOf st)).Perm (arrOf st):=by
   rw[Array.perm_iff_toList_perm]
   refine(List.Perm.of_eq wl).trans ?_
   rw[eC,eC] at hp'
   refine((hp'.append_left _).append_right _).trans ?_
   have e1:(arrOf st).toList.drop (sa+k)=((arrOf st).toList.drop (sa+k)).take (sb-(sa+k))++(arrOf st).toList.drop sb:=tL (by lia)
   have e2:(arrOf st).toList.drop sb=((arrOf st).toList.drop sb).take (sb+k2-sb)++(arrOf st).toList.drop (sb+k2):=tL (by lia)
   refine List.Perm.of_eq ?_
   conv=>rhs;rw[← List.take_append_drop (sa+k) (arrOf st).toList,e1,e2]
   simp only[List.append_assoc]
  have hf:(failedOf st').isNone=true:=by rw[m.failed];rfl
  show Q (failedOf st').isNone _
  rw[hf]
  have go:∀x∈out.toList,kk key (arrOf st) sb≤key x∧key x≤kk key (arrOf st) (sb-1):=by
   intro x hx
   rcases List.mem_append.mp (hp'.mem_iff.mp hx) with z|z
   ·obtain⟨n,hn,rfl⟩:=List.mem_iff_getElem.mp z
    rw[Array.length_toList] at hn
    have e:key (((arrOf st).extract (sa+k) sb).toList[n]'(by rw[Array.length_toList];exact hn))=kk key (arrOf st) (sa+k+n):=by
     rw[← eR (i:=sa+k) (j:=sb) (by lia),cI hn,Array.getElem_toList]
    rw[e]
    have h1:=q2 (k+n) (by lia) (by lia)
    rw[← Nat.add_assoc] at h1
    have h2:=b1 (sa+k+n) (sb-1) (by lia) (by lia) (by lia)
    lia
   ·obtain⟨n,hn,rfl⟩:=List.mem_iff_getElem.mp z
    rw[Array.length_toList] at hn
    have e:key (((arrOf st).extract sb (sb+k2)).toList[n]'(by rw[Array.length_toList];exact hn))=kk key (arrOf st) (sb+n):=by
     rw[← eR (i:=sb) (j:=sb+k2) (by lia),cI hn,Array.getElem_toList]
    rw[e]
    have h1:=q3 n (by lia)
    have h2:=b2 sb (sb+n) (by lia) (by lia) (by lia)
    lia
  have bk:=aC2 (key:=key) (a:=arrOf st) (a':=out.toList.zipIdx.foldl (fun a (p,j)=>a.setIfInBounds (sa+k+j) p) (arrOf st)) (out:=out.toList) (sa:=sa) (k:=k) (sb:=sb) (k2:=k2) (e:=sb+nb) (by lia) (by lia) (by lia) (by lia) wl b1 b2 so (b:=kk key (arrOf st) sb) (t:=kk key (arrOf st) (sb-1))
   (fun i h1 h2=>by have:=q1 (i-sa) (by lia);rw[show sa+(i-sa)=i by lia] at this;lia) (fun i h1 h2=>by have:=q4 (i-sb) (by lia) (by lia);rw[show sb+(i-sb)=i by lia] at this;lia) go (fun i h1 h2=>b2 sb i (by lia) (by lia) h2)
  have ea:arrOf (setArr st' (out.toList.zipIdx.foldl (fun a (p,j)=>a.setIfInBounds (sa+k+j) p) (arrOf st')))=out.toList.zipIdx.foldl (fun a (p,j)=>a.setIfInBounds (sa+k+j) p) (arrOf st):=by rw[m.arr]
  refine h _ ⟨pd',⟨by rw[ea];exact pm.trans hq.perm,m.kind,m.failed,m.pend⟩,by rw[ea];exact hr' _ bk.2 bk.1,hlo⟩ (by rw[ea];exact bk.2.wide (by lia) (by lia)) (by show (pendingOf st').size+1=_;rw[m.pend];exact hps)
 by_cases f3:na-k≤k2
 ·rw[if_pos f3]
  exact wpS_bind (vU hC hq1 T fun out st' hp m=>last out st' hp m)
 ·rw[if_neg f3]
  exact wpS_bind (vW hC hq1 T fun out st' hp m=>last out st' hp m)
end
end PyProof.Rows
namespace PyProof.Rows
open PySem
section
variable {prog:Program} {w:World} {A:Around} {E:Value→Shared→Prop} {s:Shared} {κ:SortKind} {a₀:Array Keyed} {key:Keyed→Int}
theorem vY{c:Prop}[Decidable c]{x:Nat}:(if c then x-1 else x)≤x:=by split <;> lia
theorem SR.pw{lo:Nat}{st:SortSt}(h:SR κ a₀ key lo st)(i p:Nat):SR κ a₀ key lo (setPending st ((pendingOf st).modify i fun r=>(r.1,r.2.1,p))):=by
 obtain⟨pd,hq,hr,hl⟩:=h
 refine⟨_,⟨hq.perm,hq.kind,hq.failed,rfl⟩,?_,hl⟩
 show Runs key (arrOf st) ((pendingOf st).modify i fun r=>(r.1,r.2.1,p)).toList 0 lo
 rw[hq.pend,Array.toList_modify]
 exact hr.pw i p
theorem SR.push{lo n:Nat}{st:SortSt}(h:SR κ a₀ key lo st)(h1:1≤n)(hn:lo+n≤a₀.size)(so:So key (arrOf st) lo (lo+n)):SR κ a₀ key (lo+n) (setPending st ((pendingOf st).push (lo,n,0))):=by
 obtain⟨pd,hq,hr,hl⟩:=h
 refine⟨_,⟨hq.perm,hq.kind,hq.failed,rfl⟩,?_,hn⟩
 show Runs key (arrOf st) ((pendingOf st).push (lo,n,0)).toList 0 (lo+n)
 rw[hq.pend,Array.toList_push]
 exact hr.push h1 so
theorem aAY{st:SortSt}{Q:Unit→SortSt→Prop}(hC:Cmp prog w A s κ a₀ key)(hp:(arrOf st).Perm a₀)(hk:kindOf st=κ)(hf:failedOf st=none)(hpd:pendingOf st=#[])(h:∀st',(arrOf st').Perm a₀→failedOf st'=none→So key (arrOf st') 0 a₀.size→Q () st'):wpS (model prog w) A E s sortRuns' Q st:=by
 have h0:SR κ a₀ key 0 st:=⟨#[],⟨hp,hk,hf,hpd⟩,rfl,Nat.zero_le _⟩
 have hsz:(arrOf st).size=a₀.size:=hp.size_eq
 rw[sortRuns'_eq]
 refine wpS_bind (wpS_get ?_)
 dsimp only
 rw[hsz]
 refine wpS_bind (wpS_mono (wpS_forRange (I:=fun i c st'=>∃lo,c=(none,lo)∧SR κ a₀ key lo st'∧i≤lo) (Q:=fun c st'=>∃lo,c=(none,lo)∧SR κ a₀ key lo st'∧a₀.size≤lo) ?_ (fun c st' ⟨lo,a,b,c⟩=>⟨lo,a,b,by lia⟩) ⟨0,rfl,h0,by lia⟩) ?_)
 ·rintro i c st1 _ _ ⟨lo,rfl,hR,hil⟩
  by_cases e1:lo≥a₀.size
  ·dsimp only
   rw[if_pos e1];exact wpS_pure ⟨lo,rfl,hR,e1⟩
  have hlo:lo<a₀.size:=by lia
  obtain⟨pd,hq,hr,hl⟩:=hR
  dsimp only
  rw[if_neg e1]
  refine wpS_bind (aAX hC (by lia) (by lia) hq fun n st2 hq2 n1 n2 so ou=>?_)
  have hr2:Runs key (arrOf st2) pd.toList 0 lo:=hr.keep fun i _ h2=>ou i (.inl h2)
  dsimp only
  by_cases hm:n<minRun' a₀.size a₀.size 0
  ·rw[if_pos hm]
   refine wpS_bind (wpS_lift (wpAny_rule ⟨rfl,?_⟩))
   refine wpS_bind (aCX hC (by lia) (by lia) hq2 so fun st3 hq3 so3 ou3=>?_)
   simp only[Bool.not_true,Bool.false_eq_true,if_false]
   have hR3:SR κ a₀ key lo st3:=⟨pd,hq3,hr2.keep fun i _ h2=>ou3 i (.inl h2),hl⟩
   refine wpS_bind (wpS_get ?_)
   cases hb:(pendingOf st3).back? with
   |none=>
    dsimp only
    exact wpS_bind (wpS_modify (wpS_pure ⟨_,rfl,SR.push hR3 (by lia) (by lia) so3,by lia⟩))
   |some r=>
    obtain⟨s1,n1',pw1⟩:=r
    dsimp only
    refine wpS_bind (wpS_mono (wpS_forRange (I:=fun _ c st'=>c=(none,())∧SR κ a₀ key lo st'∧So key (arrOf st') lo (lo+min (a₀.size-lo) (minRun' a₀.size a₀.size 0))) (Q:=fun c st'=>c=(none,())∧SR κ a₀ key lo st'∧So key (arrOf st') lo (lo+min (a₀.size-lo) (minRun' a₀.size a₀.size 0))) ?_ (fun c st' hh=>hh) ⟨rfl,hR3,so3⟩) ?_)
    ·rintro x c st4 _ _ ⟨rfl,hR4,so4⟩
     refine wpS_bind (wpS_get ?_)
     by_cases hs:(pendingOf st4).size > 1
     ·rw[if_pos hs,getElem?_pos (pendingOf st4) ((pendingOf st4).size-2) (by lia)]
      generalize (pendingOf st4)[(pendingOf st4).size-2]=r4
      obtain⟨_,_,older⟩:=r4
      dsimp only
      split
      ·exact wpS_pure ⟨rfl,hR4,so4⟩
      ·refine wpS_bind (jD hC hR4 (by lia) fun st5 hR5 ou _=>?_)
       simp only[Bool.not_true,Bool.false_eq_true,if_false]
       exact wpS_pure ⟨rfl,hR5,so4.keep fun i h1 _=>ou i (.inr h1)⟩
     ·rw[if_neg hs];exact wpS_pure ⟨rfl,hR4,so4⟩
    ·rintro c st4 ⟨rfl,hR4,so4⟩
     dsimp only
     exact wpS_bind (wpS_modify (wpS_bind (wpS_modify (wpS_pure ⟨_,rfl,(hR4.pw _ _).push (by lia) (by lia) so4,by lia⟩))))
  ·rw[if_neg hm]
   have hR3:SR κ a₀ key lo st2:=⟨pd,hq2,hr2,hl⟩
   refine wpS_bind (wpS_get ?_)
   cases hb:(pendingOf st2).back? with
   |none=>
    dsimp only
    exact wpS_bind (wpS_modify (wpS_pure ⟨_,rfl,SR.push hR3 n1 (by lia) so,by lia⟩))
   |some r=>
    obtain⟨s1,n1',pw1⟩:=r
    dsimp only
    refine wpS_bind (wpS_mono (wpS_forRange (I:=fun _ c st'=>c=(none,())∧SR κ a₀ key lo st'∧So key (arrOf st') lo (lo+n)) (Q:=fun c st'=>c=(none,())∧SR κ a₀ key lo st'∧So key (arrOf st') lo (lo+n)) ?_ (fun c st' hh=>hh) ⟨rfl,hR3,so⟩) ?_)
    ·rintro x c st4 _ _ ⟨rfl,hR4,so4⟩
     refine wpS_bind (wpS_get ?_)
     by_cases hs:(pendingOf st4).size > 1
     ·rw[if_pos hs,getElem?_pos (pendingOf st4) ((pendingOf st4).size-2) (by lia)]
      generalize (pendingOf st4)[(pendingOf st4).size-2]=r4
      obtain⟨_,_,older⟩:=r4
      dsimp only
      split
      ·exact wpS_pure ⟨rfl,hR4,so4⟩
      ·refine wpS_bind (jD hC hR4 (by lia) fun st5 hR5 ou _=>?_)
       simp only[Bool.not_true,Bool.false_eq_true,if_false]
       exact wpS_pure ⟨rfl,hR5,so4.keep fun i h1 _=>ou i (.inr h1)⟩
     ·rw[if_neg hs];exact wpS_pure ⟨rfl,hR4,so4⟩
    ·rintro c st4 ⟨rfl,hR4,so4⟩
     dsimp only
     exact wpS_bind (wpS_modify (wpS_bind (wpS_modify (wpS_pure ⟨_,rfl,(hR4.pw _ _).push n1 (by lia) so4,by lia⟩))))
 ·rintro c st1 ⟨lo,rfl,hR,hlo⟩
  dsimp only
  refine wpS_bind (wpS_mono (wpS_forRange (I:=fun i c st'=>c=(none,())∧SR κ a₀ key lo st'∧(pendingOf st').size≤max 1 (a₀.size-i)) (Q:=fun c st'=>c=(none,())∧SR κ a₀ key lo st'∧(pendingOf st').size≤1) ?_ ?_ ⟨rfl,hR,?_⟩) ?_)
  ·rintro x c st4 _ _ ⟨rfl,hR4,hz⟩
   refine wpS_bind (wpS_get ?_)
   by_cases hs:(pendingOf st4).size≤1
   ·rw[if_pos hs];exact wpS_pure ⟨rfl,hR4,hs⟩
   rw[if_neg hs]
   refine wpS_bind (jD hC hR4 ?_ fun st5 hR5 _ hz5=>?_)
   ·exact Nat.lt_of_le_of_lt (Nat.succ_le_succ vY) (show (pendingOf st4).size-2+1<(pendingOf st4).size by lia)
   ·simp only[Bool.not_true,Bool.false_eq_true,if_false]
    exact wpS_pure ⟨rfl,hR5,by lia⟩
  ·rintro c st4 ⟨rfl,hR4,hz⟩
   exact⟨rfl,hR4,by lia⟩
  ·obtain⟨pd,hq,hr,hl⟩:=hR
   have:=hr.le
   rw[hq.pend]
   simp at this
   lia
  ·rintro c st4 ⟨rfl,⟨pd,hq,hr,hl⟩,hz⟩
   refine wpS_pure (h _ hq.perm hq.failed ?_)
   rw[hq.pend] at hz
   have hz':pd.toList.length≤1:=by simpa using hz
   have e:lo=a₀.size:=by lia
   subst e
   revert hz'
   revert hr
   cases pd.toList with
   |nil=>intro hr _ i j _ _ hj;have:0=a₀.size:=hr;lia
   |cons r rs=>
    cases rs with
    |nil=>intro hr _;obtain⟨_,_,so,e⟩:=hr;have e:0+r.2.1=a₀.size:=e;rw[← e];exact so
    |cons r2 rs=>intro _ hz;simp at hz
end
end PyProof.Rows
namespace L2
open PySem PySem.Spec PyProof.Rows PySem.W
def fP(h:Heap)(g:Addr→Int×Int)(vs:List Value):Prop:=∀v∈vs,∃a o n t u,v=Value.ref a∧h.get? a=some o∧o.cls=.type "tuple"∧o.data=.seq #[.int (g a).1 t,.int (g a).2 u] n∧0≤(g a).2∧(g a).2<64
def pk(u:Int×Int):Int:=64*u.1+u.2
def kv(g:Addr→Int×Int)(v:Value):Int:=match v with
 |.ref a=>pk (g a)
 |_=>0
theorem fP.tups{h:Heap}{g:Addr→Int×Int}:∀ {vs:List Value},fP h g vs→∃fs,KatTups h vs fs∧fs.length=vs.length∧∀v∈fs,∃n t,v=Value.int n t
 |[],_=>⟨[],trivial,rfl,fun v hv=>nomatch hv⟩
 |v::vs,hp=>by
  obtain⟨fs,k1,k2,k3⟩:=fP.tups (vs:=vs) fun b hb=>hp b (List.mem_cons_of_mem _ hb)
  obtain⟨a,o,n,t,u,rfl,e,c,d,_⟩:=hp v List.mem_cons_self
  refine⟨.int (g a).1 t::fs,KatTups.cons e c d rfl k1,by simp[k2],fun v hv=>?_⟩
  rcases List.mem_cons.mp hv with z|z
  ·exact⟨_,t,z⟩
  ·exact k3 v z
section
variable {prog:Program} {w:World} {A:Around} {E:Value→Shared→Prop} {s:Shared} {g:Addr→Int×Int}
theorem aAZ{vs:List Value}(hp:fP s.heap g vs):Cmp prog w A s (tuples' true) (vs.toArray.zip vs.toArray) (fun x=>kv g x.1):=by
 have mem:∀x∈(vs.toArray.zip vs.toArray).toList,x.1∈vs:=by
  intro x hx
  rw[Array.toList_zip] at hx
  exact(List.of_mem_zip hx).1
 intro x y hx hy Q E' q
 obtain⟨a,o,n,t1,t2,e1,eo,_,ed,a1,a2⟩:=hp x.1 (mem x hx)
 obtain⟨b,o',n',u1,u2,e2,eo',_,ed',b1,b2⟩:=hp y.1 (mem y hy)
 replace q:∀c,c=decide (kv g x.1<kv g y.1)→Q c s:=fun c e=>e ▸ q
 rw[e1,e2] at q
 rw[e1,e2]
 replace q:∀c,c=decide (64*(g a).1+(g a).2<64*(g b).1+(g b).2)→Q c s:=q
 generalize (g a).1=x1 at *
 generalize (g a).2=x2 at *
 generalize (g b).1=y1 at *
 generalize (g b).2=y2 at *
 refine kat_lt eo ed eo' ed' (kat_cons (wpAny_eqBool_int ?_))
 by_cases h1:x1=y1
 ·rw[beq_iff_eq.mpr h1]
  refine kat_yes (kat_cons (wpAny_eqBool_int ?_))
  by_cases h2:x2=y2
  ·rw[beq_iff_eq.mpr h2]
   exact kat_yes (kat_nil (q _ (by
    have e:decide (64*x1+x2<64*y1+y2)=false:=decide_eq_false (by lia)
    rw[e];rfl)))
  ·rw[beq_eq_false_iff_ne.mpr h2]
   exact kat_no (kat_one _ _ (lt_int (q _ (by congr 1;rw[eq_iff_iff];lia))))
 ·rw[beq_eq_false_iff_ne.mpr h1]
  exact kat_no (oneLt_int (q _ (by congr 1;rw[eq_iff_iff];lia)))
theorem aC3{vs:List Value}:((vs.toArray.zip vs.toArray).map (·.2)).toList=vs:=by
 rw[Array.toList_map,Array.toList_zip]
 show (vs.zip vs).map (·.2)=vs
 rw[← List.unzip_snd,List.unzip_zip_right (Nat.le_refl _)]
theorem tO:∀ {l:List Value} {p:Value×Value},p∈l.zip l→p.2=p.1
 |x::l,p,h=>by
  rw[List.zip_cons_cons] at h
  rcases List.mem_cons.mp h with z|z
  ·rw[z]
  ·exact tO z
theorem oE{a:Addr}{vs:List Value}{n:Nat}{P:PySem.Fin→Shared→Prop}(ho:s.heap.get? a=some (seqObj "list" vs.toArray n))(hp:fP s.heap g vs)(hz:vs.length≤4096)(h:∀ (out:Array Value),out.toList.Perm vs→out.toList.Pairwise (fun u v=>kv g u≤kv g v)→P (.done (.ret .none)) { s with heap:=sortedHeap s.heap a vs out }):
  wpAny (model prog w) A (Builtin.«list.sort» ⟨[.ref a],[]⟩) P E s:=by
 rw[list_sort_plain]
 have ha:a<s.heap.objs.size:=Heap.lt_size ho
 have hsl:vs.toArray.size≤sizeLine:=by rw[List.size_toArray,sizeLine_eq];lia
 refine wpAny_bind (listItems_at ho rfl ?_)
 refine wpAny_bind (listUpdate_at ho rfl ?_ hsl (Nat.zero_le _))
 obtain⟨e1,ho1⟩:∃e1,(s.heap.update a (Obj.mapSeq fun _=>#[])).get? a=some (seqObj "list" #[] e1):=⟨_,get?_update_seq ho (fun _=>#[])⟩
 refine wpAny_bind (seqEpoch_at ho1 rfl ?_)
 refine wpAny_bind (wpAny_newTuple ?_ (by show vs.length≤_;rw[sizeLine_eq];lia))
 refine wpAny_bind (wpAny_newList ?_ (Nat.zero_le _))
 refine wpAny_holding ?_
 have ho6:(((s.heap.update a (Obj.mapSeq fun _=>#[])).push (seqObj "tuple" vs.toArray 0)).push (seqObj "list" #[] 0)).get? a=some (seqObj "list" #[] e1):=by
  rw[Heap.get?_push_ne _ _ _ (by rw[size_push',Heap.size_update];exact Nat.ne_of_lt (Nat.lt_succ_of_lt ha)),Heap.get?_push_ne _ _ _ (by rw[Heap.size_update];exact Nat.ne_of_lt ha)]
  exact ho1
 have hp6:fP (((s.heap.update a (Obj.mapSeq fun _=>#[])).push (seqObj "tuple" vs.toArray 0)).push (seqObj "list" #[] 0)) g vs:=by
  intro v hv
  obtain⟨b,o,n,t,u,ev,e,c,d⟩:=hp v hv
  have hb:b<s.heap.objs.size:=Heap.lt_size e
  have hne:b≠a:=by
   rintro rfl
   rw[ho] at e;cases e
   exact absurd (Value.type.inj c) (by decide)
  refine⟨b,o,n,t,u,ev,?_,c,d⟩
  rw[Heap.get?_push_ne _ _ _ (by rw[size_push',Heap.size_update];exact Nat.ne_of_lt (Nat.lt_succ_of_lt hb)),Heap.get?_push_ne _ _ _ (by rw[Heap.size_update];exact Nat.ne_of_lt hb),Heap.get?_update_ne _ _ _ _ hne]
  exact e
 show wpAny (model prog w) A _ P E { s with heap:=((s.heap.update a (Obj.mapSeq fun _=>#[])).push (seqObj "tuple" vs.toArray 0)).push (seqObj "list" #[] 0) }
 dsimp only
 have fin:∀st':SortSt,(arrOf st').Perm (vs.toArray.zip vs.toArray)→So (fun x=>kv g x.1) (arrOf st') 0 (arrOf st').size→P (.done (.ret .none)) { s with heap:=sortedHeap s.heap a vs ((arrOf st').map (·.2)) }:=by
  intro st' hpm so
  refine h _ ?_ ?_
  ·have:=(Array.perm_iff_toList_perm.mp hpm).map (·.2)
   rw[← Array.toList_map,← Array.toList_map,aC3] at this
   exact this
  ·have same:∀p∈(arrOf st').toList,p.2=p.1:=by
    intro p hp
    have:=(Array.perm_iff_toList_perm.mp hpm).mem_iff.mp hp
    rw[Array.toList_zip] at this
    exact tO this
   rw[Array.toList_map,List.pairwise_map]
   refine List.pairwise_iff_getElem.mpr fun i j hi hj hij=>?_
   rw[same _ (List.getElem_mem hi),same _ (List.getElem_mem hj)]
   have:=so i j (by lia) (by lia) (by simpa using hj)
   rw[cI (by simpa using hi),cI (by simpa using hj)] at this
   simpa using this
 have zsz:(vs.toArray.zip vs.toArray).size=vs.length:=by simp
 by_cases h2:vs.toArray.size<2
 ·rw[if_pos h2,if_pos h2]
  refine wpAny_bind (wpAny_pure ?_)
  rw[StateT.run_pure]
  refine wpAny_bind (wpAny_pure ?_)
  dsimp only
  refine wpAny_bind (seqEpoch_at ho6 rfl ?_)
  refine wpAny_bind (listUpdate_at ho6 rfl ?_ (Nat.zero_le _) (by show ((vs.toArray.zip vs.toArray).map (·.2)).size≤_;rw[Array.size_map,zsz,sizeLine_eq];lia))
  simp only[bne_self_eq_false,Bool.false_eq_true,if_false]
  exact wpAny_pure (fin (SortSt.mk' general' (vs.toArray.zip vs.toArray) #[] 7 none) (Array.Perm.refl _) fun i j _ h3 h4=>by
   have h4:j<(vs.toArray.zip vs.toArray).size:=h4
   rw[zsz] at h4
   rw[List.size_toArray] at h2
   rw[show i=j by lia]
   exact Int.le_refl _)
 ·rw[if_neg h2,if_neg h2]
  have hlen:2≤vs.length:=by rw[List.size_toArray] at h2;lia
  obtain⟨fs,k1,k2,k3⟩:=hp6.tups
  refine wpAny_bind (kat_kind (T:=.type "int") k1 (by lia) (fun v hv=>?_) rfl ?_)
  ·obtain⟨m,t,rfl⟩:=k3 v hv
   exact .now
  refine wpAny_bind (wpAny_mono (aAY (a₀:=vs.toArray.zip vs.toArray) (κ:=tuples' true) (st:=SortSt.mk' (tuples' true) (vs.toArray.zip vs.toArray) #[] 7 none)
   (Q:=fun _ st'=>(arrOf st').Perm (vs.toArray.zip vs.toArray)∧failedOf st'=none∧So (fun x=>kv g x.1) (arrOf st') 0 (vs.toArray.zip vs.toArray).size) (aAZ hp6) (Array.Perm.refl _) rfl rfl rfl fun st' b1 b2 b3=>⟨b1,b2,b3⟩) ?_ fun _ _ e=>e)
  rintro⟨⟨⟩,st'⟩ s' ⟨rfl,hpm,hf,so⟩
  dsimp only
  refine wpAny_bind (seqEpoch_at ho6 rfl ?_)
  refine wpAny_bind (listUpdate_at ho6 rfl ?_ (Nat.zero_le _) (by refine Nat.le_trans (Nat.le_of_eq ((Array.size_map ..).trans (hpm.size_eq.trans zsz))) ?_;rw[sizeLine_eq];lia))
  rw[hf]
  simp only[bne_self_eq_false,Bool.false_eq_true,if_false]
  exact wpAny_pure (fin st' hpm (by rw[hpm.size_eq];exact so))
theorem tP{l:Addr}{vs:List Value}{Q:Value→Shared→Prop}(hl:s.heap.IsList l vs.toArray)(hp:fP s.heap g vs)(hz:vs.length≤4096)(h:∀ (out:Array Value),out.toList.Perm vs→out.toList.Pairwise (fun u v=>kv g u≤kv g v)→Q (.ref (s.heap.objs.size+1)) { s with heap:=sortedAll s.heap vs out }):
  wpAny (model prog w) A (call (.builtin "sorted") [.ref l]) Q E s:=by
 have hsl:vs.length≤sizeLine:=by rw[sizeLine_eq];lia
 refine Calls.call_function_entry kind_sorted plain_sorted entry_sorted (args_sorted1 _) ?_
 unfold Builtin.«sorted»
 refine wpAny_bind (m:=checkCount "sorted" 1 1 _) (wpAny_pure ?_)
 refine wpAny_bind (collect_list hl ?_ hsl)
 refine wpAny_bind (wpAny_newList ?_ hsl)
 have hsz:((s.heap.push (seqObj "list" #[] 0)).update s.heap.objs.size (Obj.mapSeq (·++vs.toArray))).objs.size=s.heap.objs.size+1:=by
  rw[Heap.size_update,size_push']
 have hoL:(((s.heap.push (seqObj "list" #[] 0)).update s.heap.objs.size (Obj.mapSeq (·++vs.toArray))).push (seqObj "list" vs.toArray 0)).get? (s.heap.objs.size+1)=some (seqObj "list" vs.toArray 0):=by
  rw[← hsz];exact Heap.get?_push_size _ rfl
 have hp2:fP (((s.heap.push (seqObj "list" #[] 0)).update s.heap.objs.size (Obj.mapSeq (·++vs.toArray))).push (seqObj "list" vs.toArray 0)) g vs:=by
  intro v hv
  obtain⟨b,o,n,t,u,ev,e,c,d⟩:=hp v hv
  have hb:b<s.heap.objs.size:=Heap.lt_size e
  refine⟨b,o,n,t,u,ev,?_,c,d⟩
  rw[Heap.get?_push_ne _ _ _ (by rw[hsz];exact Nat.ne_of_lt (Nat.lt_succ_of_lt hb)),Heap.get?_update_ne _ _ _ _ (Nat.ne_of_lt hb),Heap.get?_push_ne _ _ _ (Nat.ne_of_lt hb)]
  exact e
 show wpAny _ _ _ _ _ { s with heap:=((s.heap.push (seqObj "list" #[] 0)).update s.heap.objs.size (Obj.mapSeq (·++vs.toArray))).push (seqObj "list" vs.toArray 0) }
 rw[hsz]
 refine wpAny_bind (wpAny_holding (wpAny_call_entry slot_list_sort ⟨_,hoL,rfl⟩ entry_list_sort (oE hoL hp2 hz fun out a1 a2=>⟨_,rfl,?_⟩) (args_list_sort _)))
 exact wpAny_pure ⟨_,rfl,h out a1 a2⟩
end
theorem mZ:∀ {as:List Addr} {its:List Value},Vals (as.map V.ref) its→its=as.map Value.ref
 |[],_,r=>by cases r;rfl
 |a::as,_,r=>by
  cases r with
  |cons r rr=>
   obtain rfl:=(show _=Value.ref a from r)
   rw[mZ rr];rfl
theorem qS:∀ {as:List Addr},Vals (as.map V.ref) (as.map Value.ref)
 |[]=>.nil
 |_::_=>.cons rfl qS
theorem aA0{as:List Addr}{vs:List Value}(h:vs.Perm (as.map Value.ref)):∃as':List Addr,vs=as'.map Value.ref∧as'.Perm as:=by
 let un:Value→Addr:=fun v=>match v with|.ref a=>a|_=>0
 refine⟨vs.map un,?_,?_⟩
 ·rw[List.map_map]
  have:∀v∈vs,(Value.ref ∘ un) v=v:=by
   intro v hv
   obtain⟨a,_,rfl⟩:=List.mem_map.mp (h.mem_iff.mp hv)
   rfl
  conv=>lhs;rw[← List.map_id vs]
  exact List.map_congr_left fun v hv=>(this v hv).symm
 ·have:=h.map un
  rw[List.map_map] at this
  have e:as.map (un ∘ Value.ref)=as:=by
   conv=>rhs;rw[← List.map_id as]
   exact List.map_congr_left fun a _=>rfl
  rw[e] at this
  exact this
def aA1(K:PySem.W.Frag):List V→Hp→VK→Prop:=fun xs H Q=>∃ (l:Addr) (as:List Addr) (g:Addr→Int×Int),xs=[.ref l]∧SqL K H l (as.map V.ref)∧(∀a∈as,SqT K H a [.int (g a).1,.int (g a).2]∧0≤(g a).2∧(g a).2<64)∧as.length≤4096∧
 ∀ (D:Addr) (as':List Addr),H D=none→as'.Perm as→as'.Pairwise (fun a b=>pk (g a)≤pk (g b))→Q (.ref D) (upd H D (.lst (as'.map V.ref)))
theorem yU{X:Cx}:cU X (.builtin "sorted") (aA1 X.K):=by
 intro pins s σ H xs us Q I r h
 obtain⟨l,as,g,rfl,hl,hp,hz,q⟩:=h
 obtain⟨u1,rfl,r1⟩:=r.one
 obtain rfl:u1=Value.ref l:=r1
 obtain⟨its,rv,pl,_⟩:=I.list hl
 have hits:=mZ rv
 subst hits
 have hpv:fP s.heap g (as.map Value.ref):=by
  intro v hv
  obtain⟨a,ha,rfl⟩:=List.mem_map.mp hv
  obtain⟨hxy,b1,b2⟩:=hp a ha
  obtain⟨its,r,⟨o,e,c,n,d⟩,_⟩:=I.tuple hxy
  obtain⟨u1,u2,rfl,r1,r2⟩:=r.two
  obtain⟨t,rfl⟩:=r1
  obtain⟨t',rfl⟩:=r2
  exact⟨a,o,n,t,t',rfl,e,c,d,b1,b2⟩
 refine tP pl.isList hpv (by rw[List.length_map];exact hz) fun out hperm hord=>?_
 obtain⟨as',eo,pa⟩:=aA0 hperm
 have hout:out=(as'.map Value.ref).toArray:=by rw[← eo]
 subst hout
 have ho:as'.Pairwise (fun a b=>pk (g a)≤pk (g b)):=by
  rw[eo,List.pairwise_map] at hord
  exact hord
 have sz1:((s.heap.push (seqObj "list" #[] 0)).update s.heap.objs.size (Obj.mapSeq (·++(as.map Value.ref).toArray))).objs.size=s.heap.objs.size+1:=by rw[Heap.size_update,size_push']
 have k1:∀b u,s.heap.get? b=some u→(((s.heap.push (seqObj "list" #[] 0)).update s.heap.objs.size (Obj.mapSeq (·++(as.map Value.ref).toArray))).push (seqObj "list" (as.map Value.ref).toArray 0)).get? b=some u:=fun b u e=>by
  have hb:b<s.heap.objs.size:=Heap.lt_size e
  rw[Heap.get?_push_ne _ _ _ (by rw[sz1];exact Nat.ne_of_lt (Nat.lt_succ_of_lt hb)),Heap.get?_update_ne _ _ _ _ (Nat.ne_of_lt hb),Heap.get?_push_ne _ _ _ (Nat.ne_of_lt hb)]
  exact e
 have hoL:(((s.heap.push (seqObj "list" #[] 0)).update s.heap.objs.size (Obj.mapSeq (·++(as.map Value.ref).toArray))).push (seqObj "list" (as.map Value.ref).toArray 0)).get? (s.heap.objs.size+1)=some (seqObj "list" (as.map Value.ref).toArray 0):=by
  rw[← sz1];exact Heap.get?_push_size _ rfl
 have sz2:(((s.heap.push (seqObj "list" #[] 0)).update s.heap.objs.size (Obj.mapSeq (·++(as.map Value.ref).toArray))).push (seqObj "list" (as.map Value.ref).toArray 0)).objs.size=s.heap.objs.size+2:=by rw[size_push',sz1]
 show EP X pins σ Q (.ref (s.heap.objs.size+1)) { s with heap:=sortedHeap (((s.heap.push (seqObj "list" #[] 0)).update s.heap.objs.size (Obj.mapSeq (·++(as.map Value.ref).toArray))).push (seqObj "list" (as.map Value.ref).toArray 0)) (s.heap.objs.size+1) (as.map Value.ref) (as'.map Value.ref).toArray }
 revert k1 hoL sz2
 generalize ((s.heap.push (seqObj "list" #[] 0)).update s.heap.objs.size (Obj.mapSeq (·++(as.map Value.ref).toArray))).push (seqObj "list" (as.map Value.ref).toArray 0)=h1
 intro k1 hoL sz2
 obtain⟨e1,ho1⟩:∃e1,(h1.update (s.heap.objs.size+1) (Obj.mapSeq fun _=>(#[]:Array Value))).get? (s.heap.objs.size+1)=some (seqObj "list" #[] e1):=⟨_,get?_update_seq hoL (fun _=>#[])⟩
 have ho6:(((h1.update (s.heap.objs.size+1) (Obj.mapSeq fun _=>(#[]:Array Value))).push (seqObj "tuple" (as.map Value.ref).toArray 0)).push (seqObj "list" #[] 0)).get? (s.heap.objs.size+1)=some (seqObj "list" #[] e1):=by
  rw[Heap.get?_push_ne _ _ _ (by rw[size_push',Heap.size_update,sz2];exact Nat.ne_of_lt (Nat.lt_succ_of_lt (Nat.lt_succ_self _))),Heap.get?_push_ne _ _ _ (by rw[Heap.size_update,sz2];exact Nat.ne_of_lt (Nat.lt_succ_self _))]
  exact ho1
 obtain⟨e2,ho7⟩:∃e2,(sortedHeap h1 (s.heap.objs.size+1) (as.map Value.ref) (as'.map Value.ref).toArray).get? (s.heap.objs.size+1)=some (seqObj "list" (as'.map Value.ref).toArray e2):=⟨_,get?_update_seq ho6 (fun _=>(as'.map Value.ref).toArray)⟩
 have keep:∀b u,s.heap.get? b=some u→(sortedHeap h1 (s.heap.objs.size+1) (as.map Value.ref) (as'.map Value.ref).toArray).get? b=some u:=fun b u e=>by
  have hb:b<s.heap.objs.size:=Heap.lt_size e
  unfold sortedHeap
  rw[Heap.get?_update_ne _ _ _ _ (Nat.ne_of_lt (Nat.lt_succ_of_lt hb)),Heap.get?_push_ne _ _ _ (by rw[size_push',Heap.size_update,sz2];exact Nat.ne_of_lt (Nat.lt_succ_of_lt (Nat.lt_succ_of_lt (Nat.lt_succ_of_lt hb)))),Heap.get?_push_ne _ _ _ (by rw[Heap.size_update,sz2];exact Nat.ne_of_lt (Nat.lt_succ_of_lt (Nat.lt_succ_of_lt hb))),Heap.get?_update_ne _ _ _ _ (Nat.ne_of_lt (Nat.lt_succ_of_lt hb))]
  exact k1 b u e
 have hnone:s.heap.get? (s.heap.objs.size+1)=none:=Heap.get?_none_of_le (by lia)
 refine⟨.ref (s.heap.objs.size+1),_,I.laidN (t':=s.toks) (o:=.lst (as'.map V.ref)) keep hnone ⟨?_,as'.map Value.ref,e2,qS,ho7⟩,rfl,q _ as' (I.hok.freshN hnone) pa ho⟩
 rw[List.length_map,pa.length_eq]
 exact Nat.le_trans hz (by decide)
end L2
namespace L2
open PySem PySem.Spec PyProof.Rows
section
variable {prog:Program} {w:World} {A:Around} {E:Value→Shared→Prop} {s:Shared}
end
end L2
namespace L2
open PySem PySem.Spec PyProof.Rows
section
variable {prog:Program} {w:World} {A:Around} {E:Value→Shared→Prop} {s:Shared}
end
section
variable {X:Cx}
end
end L2
namespace L2
open PySem PySem.Spec PyProof.Rows
section
variable {X:Cx}
theorem yV{s:Shared}{A:Around}{xs ys:List V}{us vs:List Value}(rx:Vals xs us)(ry:Vals ys vs)(fx:xs.all cZ=true)(fy:ys.all cZ=true):
  ∀j (h1:j<us.toArray.size) (h2:j<vs.toArray.size),SeqAt.EqAt A s us.toArray[j] vs.toArray[j] (eqV (xs.getD j .non) (ys.getD j .non)):=by
 intro j h1 h2
 have j1:j<xs.length:=by rw[rx.length];simpa using h1
 have j2:j<ys.length:=by rw[ry.length];simpa using h2
 have e1:xs[j]?=some (xs.getD j .non):=by rw[List.getD_eq_getElem?_getD,List.getElem?_eq_getElem j1];rfl
 have e2:ys[j]?=some (ys.getD j .non):=by rw[List.getD_eq_getElem?_getD,List.getElem?_eq_getElem j2];rfl
 obtain⟨u,hu1,ru⟩:=rx.get e1
 obtain⟨v,hv1,rv⟩:=ry.get e2
 have eu:us.toArray[j]=u:=by
  have:us[j]?=some us.toArray[j]:=by simp at h1 ⊢
  rw[hu1] at this;exact(Option.some.inj this).symm
 have ev:vs.toArray[j]=v:=by
  have:vs[j]?=some vs.toArray[j]:=by simp at h2 ⊢
  rw[hv1] at this;exact(Option.some.inj this).symm
 rw[eu,ev]
 exact nP ru rv (List.all_eq_true.mp fx _ (List.mem_of_getElem? e1)) (List.all_eq_true.mp fy _ (List.mem_of_getElem? e2))
theorem aBT{pins:List (Addr×Obj)}{σ:St}{H:Hp}{s:Shared}{A:Around}{a b:Addr}{xs ys:List V}(I:Inv X pins σ H s)(hu:A.units+1<cLine)(ha:SqT X.K H a xs)(hb:SqT X.K H b ys)(hl:xs.length=ys.length)(fx:xs.all cZ=true)(fy:ys.all cZ=true):
  SeqAt.EqAt A s (.ref a) (.ref b) (eG eqV xs ys):=by
 by_cases hab:a=b
 ·subst hab
  have e1:=I.tuple_inj ha hb
  subst e1
  have e2:eG eqV xs xs=true:=by
   clear ha hb hl fy
   induction xs with
   |nil=>rfl
   |cons x xs ih=>
    rw[List.all_cons,Bool.and_eq_true] at fx
    rw[eG,ih fx.2,Bool.and_true]
    cases x <;> first|rfl|(show (_==_)=true;simp)|exact absurd (show false=true from fx.1) Bool.false_ne_true
  rw[e2]
  exact SeqAt.EqAt.same _
 ·obtain⟨us,r1,p1,_⟩:=I.tuple ha
  obtain⟨vs,r2,p2,_⟩:=I.tuple hb
  have h:=SeqAt.RcAt.tuples (A:=A) (s:=s) (l:=a) (b:=b) (e:=fun i=>eqV (xs.getD i .non) (ys.getD i .non)) (show s.heap.IsTuple a us.toArray from p1) (show s.heap.IsTuple b vs.toArray from p2) (by lia)
   (yV r1 r2 fx fy)
  refine SeqAt.EqAt.of_refs hab ?_
  have er:((List.range (min us.toArray.size vs.toArray.size)).all (fun i=>eqV (xs.getD i .non) (ys.getD i .non))&&us.toArray.size==vs.toArray.size)=eG eqV xs ys:=by
   rw[List.size_toArray,List.size_toArray,← r1.length,← r2.length,← hl,Nat.min_self,beq_self_eq_true,Bool.and_true,jC hl]
  rw[er] at h
  exact h
theorem yW{p q:Int×Int}:eG eqV [.int p.1,.int p.2] [.int q.1,.int q.2]=decide (p=q):=by
 obtain⟨a,b⟩:=p
 obtain⟨c,d⟩:=q
 show ((a==c)&&((b==d)&&true))=decide ((a,b)=(c,d))
 by_cases h1:a=c <;> by_cases h2:b=d <;> simp[h1,h2]
def rInP(K:PySem.W.Frag)(neg:Bool):R2:=fun x y H Q=>∃ (p l:Addr) (u:Int×Int) (as:List Addr) (ps:List (Int×Int)),x=.ref p∧y=.ref l∧SqT K H p [.int u.1,.int u.2]∧SqL K H l (as.map V.ref)∧as.length=ps.length∧(∀i,i<ps.length→SqT K H (as.getD i 0) [.int (ps.getD i (0,0)).1,.int (ps.getD i (0,0)).2])∧
 Q (.bl (if neg then !decide (u∈ps) else decide (u∈ps))) H
open Classical in
theorem wX{pins:List (Addr×Obj)}{σ:St}{H:Hp}{s:Shared}(I:Inv X pins σ H s){u:Int×Int}:∀ {as:List Addr} {ps:List (Int×Int)},as.length=ps.length→(∀i,i<ps.length→SqT X.K H (as.getD i 0) [.int (ps.getD i (0,0)).1,.int (ps.getD i (0,0)).2])→
  ((as.map Value.ref).any fun v=>decide (∃a,v=Value.ref a∧SqT X.K H a [.int u.1,.int u.2]))=decide (u∈ps)
 |[],[],_,_=>by simp
 |a::as,p::ps,hl,h=>by
  have ih:=wX I (u:=u) (as:=as) (ps:=ps) (by simpa using hl) (fun i hi=>h (i+1) (by simpa using hi))
  have h0:SqT X.K H a [.int p.1,.int p.2]:=h 0 (by simp)
  rw[List.map_cons,List.any_cons,ih]
  have e:decide (∃b,Value.ref a=Value.ref b∧SqT X.K H b [.int u.1,.int u.2])=decide (u=p):=by
   rw[Bool.eq_iff_iff,decide_eq_true_iff,decide_eq_true_iff]
   constructor
   ·rintro⟨b,e,hb⟩
    cases e
    have:=I.tuple_inj h0 hb
    have e1:p.1=u.1:=V.int.inj (List.cons.inj this).1
    have e2:p.2=u.2:=V.int.inj (List.cons.inj (List.cons.inj this).2).1
    exact Prod.ext e1.symm e2.symm
   ·rintro rfl
    exact⟨a,rfl,h0⟩
  rw[e]
  by_cases z:u=p
  ·simp[z]
  ·simp[z]
open Classical in
theorem aBU{pins:List (Addr×Obj)}{σ:St}{H:Hp}{s:Shared}{A:Around}(I:Inv X pins σ H s)(hu:A.units+1<cLine){p:Addr}{u:Int×Int}(hp:SqT X.K H p [.int u.1,.int u.2]){as:List Addr}{ps:List (Int×Int)}(hl:as.length=ps.length)(h:∀i,i<ps.length→SqT X.K H (as.getD i 0) [.int (ps.getD i (0,0)).1,.int (ps.getD i (0,0)).2]):∀v∈as.map Value.ref,SeqAt.EqAt A s v (.ref p) (decide (∃a,v=Value.ref a∧SqT X.K H a [.int u.1,.int u.2])):=by
 intro v hv
 obtain⟨a,ha,rfl⟩:=List.mem_map.mp hv
 obtain⟨i,hi,e⟩:=List.mem_iff_getElem.mp ha
 have hq:=h i (by lia)
 have ea:as.getD i 0=a:=by rw[List.getD_eq_getElem?_getD,List.getElem?_eq_getElem hi];exact e
 rw[ea] at hq
 have z:=aBT (A:=A) I hu hq hp rfl rfl rfl
 rw[yW] at z
 have e:decide (∃b,Value.ref a=Value.ref b∧SqT X.K H b [.int u.1,.int u.2])=decide (ps.getD i (0,0)=u):=by
  rw[Bool.eq_iff_iff,decide_eq_true_iff,decide_eq_true_iff]
  constructor
  ·rintro⟨b,e,hb⟩
   cases e
   have:=I.tuple_inj hq hb
   exact Prod.ext (V.int.inj (List.cons.inj this).1) (V.int.inj (List.cons.inj (List.cons.inj this).2).1)
  ·intro e
   rw[← e]
   exact⟨a,rfl,hq⟩
 rw[e]
 exact z
open Classical in
theorem iW(hu:X.A.units+2<cLine):OpR X (compareOp .NotIn) (rInP X.K true):=by
 intro pins s σ H x y v u Q I rx ry h
 obtain⟨p,l,w,as,ps,rfl,rfl,hp,hl,hlen,hps,q⟩:=h
 obtain rfl:v=Value.ref p:=rx
 obtain rfl:u=Value.ref l:=ry
 obtain⟨its,r,pl,_⟩:=I.list hl
 have e:=mZ r
 subst e
 refine SeqAt.notIn_listAt (fun v=>decide (∃a,v=Value.ref a∧SqT X.K H a [.int w.1,.int w.2])) pl.isList (fun y hy=>aBU I (by show X.A.units+1+1<cLine;lia) hp hlen hps y (by simpa using hy)) ⟨.bl _,H,I,rfl,?_⟩
 rw[show (as.map Value.ref).toArray.any (fun v=>decide (∃a,v=Value.ref a∧SqT X.K H a [.int w.1,.int w.2]))=(as.map Value.ref).any (fun v=>decide (∃a,v=Value.ref a∧SqT X.K H a [.int w.1,.int w.2])) by simp,wX I hlen hps]
 exact q
end
end L2
namespace L2
open PySem PySem.Spec PyProof.Rows PySem.W
end L2
namespace NetM
abbrev Ts:=List (Int×Int)
def T(ts:Ts)(a b:Nat):Prop:=(((a:Nat):Int),((b:Nat):Int))∈ts
instance (ts:Ts) (a b:Nat):Decidable (T ts a b):=inferInstanceAs (Decidable (_∈_))
def Walk(ts:Ts):Nat→Nat→Nat→Prop
 |0,a,b=>a=b
 |k+1,a,b=>∃c,Walk ts k a c∧T ts c b
theorem Walk.trans{ts:Ts}{k:Nat}{a b:Nat}(h:Walk ts k a b):∀ {l:Nat} {c:Nat},Walk ts l b c→Walk ts (k+l) a c
 |0,_,e=>by cases e;exact h
 |l+1,_,⟨d,w,t⟩=>⟨d,h.trans w,t⟩
theorem Walk.one{ts:Ts}{a b:Nat}(h:T ts a b):Walk ts 1 a b:=⟨a,rfl,h⟩
theorem Walk.cons{ts:Ts}{k a b c:Nat}(h:T ts a b)(w:Walk ts k b c):Walk ts (k+1) a c:=by
 have:=(Walk.one h).trans w
 rwa [Nat.add_comm] at this
def lW(ts:Ts)(a b d:Nat):Prop:=Walk ts d a b∧∀k,Walk ts k a b→d≤k
theorem lW.uniq{ts:Ts}{a b d e:Nat}(h:lW ts a b d)(g:lW ts a b e):d=e:=Nat.le_antisymm (h.2 _ g.1) (g.2 _ h.1)
open Classical in
noncomputable def far(ts:Ts)(a b:Nat):Nat:=if h:∃d,lW ts a b d then h.choose else 0
theorem aD8{ts:Ts}{a b d:Nat}(h:lW ts a b d):far ts a b=d:=by
 unfold far
 have hx:∃d,lW ts a b d:=⟨d,h⟩
 rw[dif_pos hx]
 exact hx.choose_spec.uniq h
structure Fine(n:Nat)(ts:Ts):Prop where
 n1:2≤n
 n2:n≤32
 nd:ts.Nodup
 rg:∀t∈ts,(0≤t.1∧t.1<n)∧(0≤t.2∧t.2<n)
 ne:∀t∈ts,t.1≠t.2
 bal:∀h:Int,(ts.filter fun t=>decide (t.1=h)).length=(ts.filter fun t=>decide (t.2=h)).length
 most:∀h:Int,(ts.filter fun t=>decide (t.1=h)).length≤8
 con:∀a b,a<n→b<n→∃k,Walk ts k a b
theorem aA2{α:Type}(f:α→Int):∀ (l:List α) (n:Nat),(∀x∈l,0≤f x∧f x<n)→(∀h:Int,(l.filter fun t=>decide (f t=h)).length≤8)→l.length≤8*n:=by
 intro l n
 induction n generalizing l with
 |zero=>
  intro h _
  cases l with
  |nil=>simp
  |cons x xs=>have:=h x List.mem_cons_self;lia
 |succ n ih=>
  intro h h8
  have e:l.length=(l.filter fun t=>decide (f t=(n:Int))).length+(l.filter fun t=>!decide (f t=(n:Int))).length:=by
   induction l with
   |nil=>rfl
   |cons x xs ih2=>
    have:=ih2 (fun y hy=>h y (List.mem_cons_of_mem _ hy)) (fun hh=>Nat.le_trans (by rw[List.filter_cons];split <;> simp) (h8 hh))
    by_cases q:f x=(n:Int) <;> simp[List.filter_cons,q] <;> lia
  have i2:=ih (l.filter fun t=>!decide (f t=(n:Int))) (fun x hx=>by
   have a:=h x (List.mem_filter.mp hx |>.1)
   have b:=(List.mem_filter.mp hx).2
   simp at b
   lia) (fun hh=>by
   refine Nat.le_trans ?_ (h8 hh)
   exact(List.filter_sublist.filter _).length_le)
  have:=h8 (n:Int)
  lia
theorem Fine.len{n:Nat}{ts:Ts}(F:Fine n ts):ts.length≤256:=by
 have:=aA2 (·.1) ts n (fun t ht=>(F.rg t ht).1) F.most
 have:=F.n2
 lia
theorem Fine.tlt{n:Nat}{ts:Ts}(F:Fine n ts){a b:Nat}(h:T ts a b):a<n∧b<n∧a≠b:=by
 have q:=F.rg _ h
 have q2:=F.ne _ h
 refine⟨by have:=q.1;simp at this;lia,by have:=q.2;simp at this;lia,fun e=>q2 (by rw[e])⟩
def outN(n:Nat)(ts:Ts)(h:Nat):List Nat:=((List.range n).map fun s=>(h+s) % n).filter fun o=>decide (T ts h o)
theorem eX{n:Nat}{ts:Ts}(F:Fine n ts){h o:Nat}(hh:h<n):o∈outN n ts h↔T ts h o:=by
 unfold outN
 rw[List.mem_filter,decide_eq_true_eq]
 refine⟨fun z=>z.2,fun z=>⟨?_,z⟩⟩
 obtain⟨_,h2,_⟩:=F.tlt z
 refine List.mem_map.mpr ⟨if h≤o then o-h else o+n-h,List.mem_range.mpr (by split <;> lia),?_⟩
 split
 ·rw[show h+(o-h)=o by lia,Nat.mod_eq_of_lt h2]
 ·rw[show h+(o+n-h)=o+n by lia,Nat.add_mod_right,Nat.mod_eq_of_lt h2]
theorem lX{n:Nat}{ts:Ts}(F:Fine n ts){h o:Nat}(hh:h<n)(ho:o∈outN n ts h):o<n:=(F.tlt ((eX F hh).mp ho)).2.1
def key(n h o:Nat):Int:=((o:Int)-(h:Int)) % (n:Int)
theorem jK{n h s:Nat}(hh:h<n)(hs:s<n):key n h ((h+s) % n)=(s:Int):=by
 unfold key
 by_cases c:h+s<n
 ·rw[Nat.mod_eq_of_lt c,show (((h+s:Nat):Int)-(h:Int))=(s:Int) by lia]
  exact Int.emod_eq_of_lt (by lia) (by lia)
 ·have e:(h+s) % n=h+s-n:=by
   rw[Nat.mod_eq_sub_mod (by lia),Nat.mod_eq_of_lt (by lia)]
  rw[e,show ((((h+s-n:Nat)):Int)-(h:Int))=(s:Int)-(n:Int) by lia,Int.sub_emod_right]
  exact Int.emod_eq_of_lt (by lia) (by lia)
theorem mP{n:Nat}{ts:Ts}{h:Nat}(hh:h<n):(outN n ts h).Pairwise fun a b=>key n h a<key n h b:=by
 unfold outN
 refine List.Pairwise.filter _ ?_
 refine List.pairwise_map.mpr ?_
 refine List.Pairwise.imp_of_mem ?_ (List.pairwise_lt_range (n:=n))
 intro a b ha hb hab
 rw[jK hh (List.mem_range.mp ha),jK hh (List.mem_range.mp hb)]
 lia
theorem mQ{α:Type}{k:α→Int}:∀ {a b:List α},a.Pairwise (fun x y=>k x<k y)→b.Pairwise (fun x y=>k x<k y)→(∀x,x∈a↔x∈b)→a=b
 |[],[],_,_,_=>rfl
 |[],y::ys,_,_,h=>absurd ((h y).mpr List.mem_cons_self) (by simp)
 |x::xs,[],_,_,h=>absurd ((h x).mp List.mem_cons_self) (by simp)
 |x::xs,y::ys,ha,hb,h=>by
  obtain⟨a1,a2⟩:=List.pairwise_cons.mp ha
  obtain⟨b1,b2⟩:=List.pairwise_cons.mp hb
  have e:x=y:=by
   rcases List.mem_cons.mp ((h x).mp List.mem_cons_self) with z|z
   ·exact z
   ·rcases List.mem_cons.mp ((h y).mpr List.mem_cons_self) with z'|z'
    ·exact z'.symm
    ·have q1:=b1 x z
     have q2:=a1 y z'
     lia
  subst e
  refine congrArg (x::·) (mQ a2 b2 fun z=>⟨fun hz=>?_,fun hz=>?_⟩)
  ·rcases List.mem_cons.mp ((h z).mp (List.mem_cons_of_mem _ hz)) with q|q
   ·subst q;exact absurd (a1 _ hz) (by lia)
   ·exact q
  ·rcases List.mem_cons.mp ((h z).mpr (List.mem_cons_of_mem _ hz)) with q|q
   ·subst q;exact absurd (b1 _ hz) (by lia)
   ·exact q
structure Bfs(n:Nat)(ts:Ts)(s i:Nat)(R:List Nat)(f:Nat→Nat):Prop where
 nd:R.Nodup
 lt:∀x∈R,x<n
 st:s∈R
 z:f s=0
 wk:∀x∈R,Walk ts (f x) s x
 up:R.Pairwise fun a b=>f a≤f b
 bd:∀u,R[i]?=some u→∀x∈R,f x≤f u+1
 cl:∀j u,j<i→R[j]?=some u→∀v,T ts u v→v∈R∧f v≤f u+1
theorem Bfs.start{n:Nat}{ts:Ts}{s:Nat}(hs:s<n):Bfs n ts s 0 [s] (fun _=>0):=
 ⟨by simp,fun x hx=>by simp at hx;lia,by simp,rfl,fun x hx=>by simp at hx;subst hx;rfl,by simp,fun u _ x _=>by lia,fun j u h=>absurd h (by lia)⟩
def put(f:Nat→Nat)(v k:Nat):Nat→Nat:=fun y=>if y=v then k else f y
theorem gB{f:Nat→Nat}{v k:Nat}:put f v k v=k:=by simp[put]
theorem dJ{f:Nat→Nat}{v k x:Nat}(h:x≠v):put f v k x=f x:=by simp[put,h]
theorem Bfs.add{n:Nat}{ts:Ts}{s i u v:Nat}{R:List Nat}{f:Nat→Nat}(B:Bfs n ts s i R f)(hu:R[i]?=some u)(hv:v<n)(t:T ts u v)(hn:v∉R):Bfs n ts s i (R++[v]) (put f v (f u+1)):=by
 have hur:u∈R:=List.mem_of_getElem? hu
 have nv:∀x∈R,x≠v:=fun x hx e=>hn (e ▸ hx)
 have hi:i<R.length:=(List.getElem?_eq_some_iff.mp hu).1
 refine⟨?_,fun x hx=>?_,List.mem_append_left _ B.st,by rw[dJ (nv s B.st)];exact B.z,fun x hx=>?_,?_,fun w hw x hx=>?_,fun j w hj hw x hx=>?_⟩
 ·rw[List.nodup_append]
  exact⟨B.nd,by simp,fun a ha b hb e=>by simp at hb;subst hb;exact hn (e ▸ ha)⟩
 ·rcases List.mem_append.mp hx with z|z
  ·exact B.lt x z
  ·simp at z;lia
 ·rcases List.mem_append.mp hx with z|z
  ·rw[dJ (nv x z)];exact B.wk x z
  ·simp at z;subst z
   rw[gB]
   exact⟨u,B.wk u hur,t⟩
 ·rw[List.pairwise_append]
  refine⟨B.up.imp_of_mem fun {a b} ha hb h=>by rw[dJ (nv a ha),dJ (nv b hb)];exact h,by simp,fun a ha b hb=>?_⟩
  simp at hb;subst hb
  rw[dJ (nv a ha),gB]
  exact B.bd u hu a ha
 ·have hw':w=u:=by
   rw[List.getElem?_append_left hi,hu] at hw
   exact(Option.some.inj hw).symm
  subst hw'
  rw[dJ (nv w hur)]
  rcases List.mem_append.mp hx with z|z
  ·rw[dJ (nv x z)];exact B.bd w hu x z
  ·simp at z;subst z;rw[gB];exact Nat.le_refl _
 ·rw[List.getElem?_append_left (by lia)] at hw
  obtain⟨a,b⟩:=B.cl j w hj hw x hx
  refine⟨List.mem_append_left _ a,?_⟩
  rw[dJ (nv x a),dJ (nv w (List.mem_of_getElem? hw))]
  exact b
theorem Bfs.next{n:Nat}{ts:Ts}{s i u:Nat}{R:List Nat}{f:Nat→Nat}(B:Bfs n ts s i R f)(hu:R[i]?=some u)(h:∀v,T ts u v→v∈R∧f v≤f u+1):Bfs n ts s (i+1) R f:=by
 refine⟨B.nd,B.lt,B.st,B.z,B.wk,B.up,fun w hw x hx=>?_,fun j w hj hw v hv=>?_⟩
 ·have h1:=B.bd u hu x hx
  have h2:f u≤f w:=by
   have hi:i<R.length:=(List.getElem?_eq_some_iff.mp hu).1
   have hi':i+1<R.length:=(List.getElem?_eq_some_iff.mp hw).1
   have:=List.pairwise_iff_getElem.mp B.up i (i+1) hi hi' (by lia)
   rw[List.getElem?_eq_getElem hi] at hu
   rw[List.getElem?_eq_getElem hi'] at hw
   rw[Option.some.inj hu,Option.some.inj hw] at this
   exact this
  lia
 ·by_cases e:j=i
  ·subst e
   rw[hu] at hw
   cases hw
   exact h v hv
  ·exact B.cl j w (by lia) hw v hv
theorem dR:∀ {n:Nat} {R:List Nat},R.Nodup→(∀x∈R,x<n)→R.length≤n:=by
 intro n R hn hl
 have key:∀ (a b:List Nat),a.Nodup→(∀x∈a,x∈b)→a.length≤b.length:=by
  intro a
  induction a with
  |nil=>intro b _ _;exact Nat.zero_le _
  |cons x xs ih=>
   intro b hn hs
   obtain⟨h1,h2⟩:=List.nodup_cons.mp hn
   have hx:x∈b:=hs x List.mem_cons_self
   have:=ih (b.erase x) h2 fun y hy=>(List.mem_erase_of_ne (fun (e:y=x)=>h1 (e ▸ hy))).mpr (hs y (List.mem_cons_of_mem _ hy))
   rw[List.length_erase_of_mem hx] at this
   have:0<b.length:=List.length_pos_of_mem hx
   rw[List.length_cons]
   lia
 have:=key R (List.range n) hn fun x hx=>List.mem_range.mpr (hl x hx)
 rwa [List.length_range] at this
theorem Bfs.done{n:Nat}{ts:Ts}{s i:Nat}{R:List Nat}{f:Nat→Nat}(B:Bfs n ts s i R f)(F:Fine n ts)(hi:R.length≤i){x:Nat}(hx:x<n):x∈R∧f x=far ts s x:=by
 have cl:∀u∈R,∀v,T ts u v→v∈R∧f v≤f u+1:=fun u hu v hv=>by
  obtain⟨j,hj,e⟩:=List.mem_iff_getElem.mp hu
  exact B.cl j u (by lia) (by rw[List.getElem?_eq_getElem hj,e]) v hv
 have walk:∀k x,Walk ts k s x→x∈R∧f x≤k:=by
  intro k
  induction k with
  |zero=>intro x e;cases e;exact⟨B.st,by rw[B.z];exact Nat.le_refl _⟩
  |succ k ih=>
   rintro x ⟨c,w,t⟩
   obtain⟨c1,c2⟩:=ih c w
   obtain⟨d1,d2⟩:=cl c c1 x t
   exact⟨d1,by lia⟩
 obtain⟨k,w⟩:=F.con s x (B.lt s B.st) hx
 obtain⟨m,_⟩:=walk k x w
 exact⟨m,(aD8 ⟨B.wk x m,fun k w=>(walk k x w).2⟩).symm⟩
end NetM
namespace NetM
theorem Walk.mono{ts ts':Ts}(h:∀t∈ts,t∈ts'):∀ {k a b:Nat},Walk ts k a b→Walk ts' k a b
 |0,_,_,e=>e
 |_+1,_,_,⟨c,w,t⟩=>⟨c,w.mono h,h _ t⟩
structure Pre(n:Nat)(ts:Ts):Prop where
 nd:ts.Nodup
 rg:∀t∈ts,(0≤t.1∧t.1<n)∧(0≤t.2∧t.2<n)
 ne:∀t∈ts,t.1≠t.2
 bal:∀h:Int,(ts.filter fun t=>decide (t.1=h)).length=(ts.filter fun t=>decide (t.2=h)).length
 most:∀h:Int,(ts.filter fun t=>decide (t.1=h)).length≤8
theorem Fine.pre{n:Nat}{ts:Ts}(F:Fine n ts):Pre n ts:=⟨F.nd,F.rg,F.ne,F.bal,F.most⟩
theorem Pre.fine{n:Nat}{ts:Ts}(P:Pre n ts)(n1:2≤n)(n2:n≤32)(c:∀a b,a<n→b<n→∃k,Walk ts k a b):Fine n ts:=⟨n1,n2,P.nd,P.rg,P.ne,P.bal,P.most,c⟩
theorem Fine.perm{n:Nat}{ts ts':Ts}(F:Fine n ts)(p:ts'.Perm ts):Fine n ts':=
  ⟨F.n1,F.n2,p.nodup_iff.mpr F.nd,fun t ht=>F.rg t (p.mem_iff.mp ht),fun t ht=>F.ne t (p.mem_iff.mp ht),fun h=>by rw[(p.filter _).length_eq,(p.filter _).length_eq];exact F.bal h,
   fun h=>by rw[(p.filter _).length_eq];exact F.most h,fun a b ha hb=>let ⟨k,w⟩:=F.con a b ha hb;⟨k,w.mono fun t ht=>p.mem_iff.mpr ht⟩⟩
theorem Fine.app{n:Nat}{ts us:Ts}(F:Fine n ts)(P:Pre n (ts++us)):Fine n (ts++us):=
 P.fine F.n1 F.n2 fun a b ha hb=>let ⟨k,w⟩:=F.con a b ha hb;⟨k,w.mono fun t ht=>List.mem_append_left _ ht⟩
def pk(c k:Nat):Nat:=if k=0 then c-1 else k-1
abbrev ci(x:Nat):Int:=(x:Int)
def cyc(xs:List Nat):Ts:=(List.range xs.length).map fun k=>(ci (xs.getD (pk xs.length k) 0),ci (xs.getD k 0))
theorem cC{xs:List Nat}{k:Nat}(h:k<xs.length):xs.getD k 0=xs[k]:=by rw[List.getD_eq_getElem?_getD,List.getElem?_eq_getElem h];rfl
theorem wY(xs:List Nat):(cyc xs).map (·.2)=xs.map ci:=by
 unfold cyc
 rw[List.map_map]
 apply List.ext_getElem
 ·simp
 ·intro i h1 h2
  simp only[List.getElem_map,List.getElem_range,Function.comp]
  rw[cC (by simpa using h2)]
theorem wZ(xs:List Nat):((cyc xs).map (·.1)).Perm (xs.map ci):=by
 cases hx:xs with
 |nil=>exact List.Perm.refl _
 |cons y ys=>
  rw[← hx]
  have hl:xs.length=ys.length+1:=by rw[hx];rfl
  have e:(cyc xs).map (·.1)=ci (xs.getD (xs.length-1) 0)::(xs.take (xs.length-1)).map ci:=by
   unfold cyc
   rw[List.map_map]
   apply List.ext_getElem
   ·simp;lia
   ·intro i h1 h2
    simp only[List.getElem_map,List.getElem_range,Function.comp]
    cases i with
    |zero=>rfl
    |succ i=>
     have hi:i+1<xs.length:=by simpa using h1
     simp only[List.getElem_cons_succ,List.getElem_map,List.getElem_take]
     unfold pk
     rw[if_neg (by lia),show i+1-1=i by lia,cC (by lia)]
  rw[e]
  have:xs.map ci=(xs.take (xs.length-1)).map ci++[ci (xs.getD (xs.length-1) 0)]:=by
   conv=>lhs;rw[← List.take_append_drop (xs.length-1) xs]
   rw[List.map_append]
   congr 1
   rw[List.drop_eq_getElem_cons (by lia),List.drop_eq_nil_of_le (by lia),cC (by lia)]
   rfl
  rw[this]
  exact(List.perm_append_singleton _ _).symm
theorem eY(ts:Ts)(h:Int):(ts.filter fun t=>decide (t.1=h)).length=(ts.map (·.1)).count h:=by
 induction ts with
 |nil=>rfl
 |cons t ts ih=>by_cases e:t.1=h <;> simp[List.filter_cons,List.count_cons,e,ih]
theorem nB(ts:Ts)(h:Int):(ts.filter fun t=>decide (t.2=h)).length=(ts.map (·.2)).count h:=by
 induction ts with
 |nil=>rfl
 |cons t ts ih=>by_cases e:t.2=h <;> simp[List.filter_cons,List.count_cons,e,ih]
theorem nC{xs:List Nat}(h:xs.Nodup):(xs.map ci).Nodup:=by
 refine List.pairwise_map.mpr (h.imp fun {a b} hab e=>hab ?_)
 exact Int.ofNat.inj e
theorem lB{α β:Type}{f:α→β}:∀ {l:List α},(l.map f).Nodup→l.Nodup
 |[],_=>List.nodup_nil
 |a::l,h=>by
  rw[List.map_cons] at h
  obtain⟨h1,h2⟩:=List.nodup_cons.mp h
  exact List.nodup_cons.mpr ⟨fun z=>h1 (List.mem_map.mpr ⟨a,z,rfl⟩),lB h2⟩
theorem jN{xs:List Nat}{t:Int×Int}(h:t∈cyc xs):∃k,k<xs.length∧t=(ci (xs.getD (pk xs.length k) 0),ci (xs.getD k 0)):=by
 obtain⟨k,hk,rfl⟩:=List.mem_map.mp h
 exact⟨k,List.mem_range.mp hk,rfl⟩
theorem lY{c k:Nat}(h:k<c):pk c k<c:=by unfold pk;split <;> lia
theorem iX{xs:List Nat}{k:Nat}(h:k<xs.length):xs.getD k 0∈xs:=by rw[cC h];exact List.getElem_mem h
theorem gW{xs:List Nat}(nd:xs.Nodup){i j:Nat}(hi:i<xs.length)(hj:j<xs.length)(e:xs[i]=xs[j]):i=j:=by
 have pw:=List.pairwise_iff_getElem.mp nd
 rcases Nat.lt_trichotomy i j with z|z|z
 ·exact absurd e (pw i j hi hj z)
 ·exact z
 ·exact absurd e.symm (pw j i hj hi z)
theorem pI{n:Nat}{xs:List Nat}(nd:xs.Nodup)(lt:∀x∈xs,x<n)(c2:2≤xs.length):Pre n (cyc xs)∧∀h:Int,((cyc xs).filter fun t=>decide (t.1=h)).length≤1:=by
 have nd2:((cyc xs).map (·.2)).Nodup:=by rw[wY];exact nC nd
 have one:∀h:Int,((cyc xs).filter fun t=>decide (t.1=h)).length≤1:=fun h=>by
  rw[eY,(wZ xs).count_eq]
  exact List.nodup_iff_count.mp (nC nd) h
 refine⟨⟨lB nd2,fun t ht=>?_,fun t ht=>?_,fun h=>?_,fun h=>Nat.le_trans (one h) (by decide)⟩,one⟩
 ·obtain⟨k,hk,rfl⟩:=jN ht
  have h1:=lt _ (iX (lY hk))
  have h2:=lt _ (iX hk)
  simp only[ci]
  lia
 ·obtain⟨k,hk,rfl⟩:=jN ht
  intro e
  have e':xs.getD (pk xs.length k) 0=xs.getD k 0:=Int.ofNat.inj e
  rw[cC (lY hk),cC hk] at e'
  have:=gW nd (lY hk) hk e'
  unfold pk at this
  split at this <;> lia
 ·rw[eY,nB,(wZ xs).count_eq,wY]
theorem lZ{n:Nat}{ts us:Ts}(P:Pre n ts)(Q:Pre n us)(hd:∀t∈us,t∉ts)(hm:∀h:Int,(ts.filter fun t=>decide (t.1=h)).length+(us.filter fun t=>decide (t.1=h)).length≤8):Pre n (ts++us):=by
 refine⟨List.nodup_append.mpr ⟨P.nd,Q.nd,fun a ha b hb e=>hd b hb (e ▸ ha)⟩,fun t ht=>?_,fun t ht=>?_,fun h=>?_,fun h=>?_⟩
 ·rcases List.mem_append.mp ht with z|z
  ·exact P.rg t z
  ·exact Q.rg t z
 ·rcases List.mem_append.mp ht with z|z
  ·exact P.ne t z
  ·exact Q.ne t z
 ·rw[List.filter_append,List.filter_append,List.length_append,List.length_append,P.bal,Q.bal]
 ·rw[List.filter_append,List.length_append];exact hm h
theorem aA3{n:Nat}{ts:Ts}{xs:List Nat}(P:Pre n ts)(nd:xs.Nodup)(lt:∀x∈xs,x<n)(c2:2≤xs.length)(hf:∀t∈cyc xs,(ts.filter fun u=>decide (u.1=t.1)).length≤7)(hn:∀t∈cyc xs,t∉ts):Pre n (ts++cyc xs):=by
 obtain⟨Q,one⟩:=pI nd lt c2
 refine lZ P Q hn fun h=>?_
 by_cases z:(cyc xs).filter (fun t=>decide (t.1=h))=[]
 ·rw[z];simpa using P.most h
 ·obtain⟨t,ht⟩:=List.exists_mem_of_ne_nil _ z
  obtain⟨h1,h2⟩:=List.mem_filter.mp ht
  have e:t.1=h:=by simpa using h2
  have a:=hf t h1
  rw[e] at a
  have:=one h
  lia
theorem aCw{xs:List Nat}{k:Nat}(hk:k<xs.length):T (cyc xs) (xs.getD (pk xs.length k) 0) (xs.getD k 0):=List.mem_map.mpr ⟨k,List.mem_range.mpr hk,rfl⟩
theorem tQ{xs:List Nat}(i:Nat):∀ (d:Nat),i+d<xs.length→Walk (cyc xs) d (xs.getD i 0) (xs.getD (i+d) 0)
 |0,_=>rfl
 |d+1,h=>by
  refine⟨_,tQ i d (by lia),?_⟩
  have:=aCw (xs:=xs) (k:=i+(d+1)) h
  unfold pk at this
  rw[if_neg (by lia)] at this
  exact this
theorem qT{n:Nat}{xs:List Nat}(n1:2≤n)(n2:n≤32)(pm:xs.Perm (List.range n)):Fine n (cyc xs):=by
 have hl:xs.length=n:=by rw[pm.length_eq,List.length_range]
 have nd:xs.Nodup:=pm.nodup_iff.mpr List.nodup_range
 have lt:∀x∈xs,x<n:=fun x hx=>List.mem_range.mp (pm.mem_iff.mp hx)
 refine(pI nd lt (by lia)).1.fine n1 n2 fun a b ha hb=>?_
 obtain⟨i,hi,ei⟩:=List.mem_iff_getElem.mp (pm.mem_iff.mpr (List.mem_range.mpr ha))
 obtain⟨j,hj,ej⟩:=List.mem_iff_getElem.mp (pm.mem_iff.mpr (List.mem_range.mpr hb))
 have w1:=tQ (xs:=xs) i (xs.length-1-i) (by lia)
 have t0:=aCw (xs:=xs) (k:=0) (by lia)
 have w3:=tQ (xs:=xs) 0 j (by lia)
 rw[show i+(xs.length-1-i)=xs.length-1 by lia] at w1
 rw[show pk xs.length 0=xs.length-1 from rfl] at t0
 rw[Nat.zero_add] at w3
 have w:=w1.trans (Walk.cons t0 w3)
 rw[cC hi,cC hj,ei,ej] at w
 exact⟨_,w⟩
structure Tree(n:Nat)(os:List Nat)(k:Nat)(ts:Ts):Prop where
 pre:Pre n ts
 ends:∀t∈ts,∃a b,a∈os.take k∧b∈os.take k∧t=(ci a,ci b)
 con:∀a b,a∈os.take k→b∈os.take k→∃j,Walk ts j a b
 len:ts.length+2=2*k
theorem Tree.start{n:Nat}{os:List Nat}(h:0<os.length):Tree n os 1 []:=by
 refine⟨⟨List.nodup_nil,(fun t h=>nomatch h),(fun t h=>nomatch h),fun h=>rfl,fun h=>by simp⟩,(fun t h=>nomatch h),fun a b ha hb=>?_,rfl⟩
 cases os with
 |nil=>simp at h
 |cons o os=>
  simp at ha hb
  exact⟨0,by rw[ha,hb];rfl⟩
theorem Tree.add{n:Nat}{os:List Nat}{k s v:Nat}{ts:Ts}(Tr:Tree n os k ts)(nd:os.Nodup)(lt:∀x∈os,x<n)(hv:os[k]?=some v)(hs:s∈os.take k)(hd:(ts.filter fun t=>decide (t.1=ci s)).length<8):Tree n os (k+1) (ts++[(ci s,ci v),(ci v,ci s)]):=by
 have tk:os.take (k+1)=os.take k++[v]:=by rw[List.take_add_one,hv];rfl
 have nd1:(os.take k++[v]).Nodup:=by rw[← tk];exact nd.sublist (List.take_sublist _ _)
 have vn:v∉os.take k:=fun z=>(List.nodup_append.mp nd1).2.2 v z v (by simp) rfl
 have sv:s≠v:=fun e=>vn (e ▸ hs)
 have vm:v∈os:=List.mem_of_getElem? hv
 have sl:=lt s (List.mem_of_mem_take hs)
 have vl:=lt v vm
 have nov:∀t∈ts,t.1≠ci v∧t.2≠ci v:=fun t ht=>by
  obtain⟨a,b,ha,hb,rfl⟩:=Tr.ends t ht
  exact⟨fun e=>vn (Int.ofNat.inj e ▸ ha),fun e=>vn (Int.ofNat.inj e ▸ hb)⟩
 have Q:Pre n [(ci s,ci v),(ci v,ci s)]:=by
  have svi:ci s≠ci v:=fun e=>sv (Int.ofNat.inj e)
  refine⟨?_,fun t ht=>?_,fun t ht=>?_,fun h=>?_,fun h=>Nat.le_trans (List.length_filter_le _ _) (by simp)⟩
  ·simp[svi]
  ·simp at ht
   rcases ht with rfl|rfl <;> (simp only[ci];lia)
  ·simp at ht
   rcases ht with rfl|rfl
   ·exact svi
   ·exact svi.symm
  ·by_cases a:ci s=h <;> by_cases b:ci v=h <;> simp[List.filter_cons,a,b]
 have P2:Pre n (ts++[(ci s,ci v),(ci v,ci s)]):=by
  refine lZ Tr.pre Q (fun t ht z=>?_) fun h=>?_
  ·simp at ht
   rcases ht with rfl|rfl
   ·exact(nov _ z).2 rfl
   ·exact(nov _ z).1 rfl
  ·have svi:ci s≠ci v:=fun e=>sv (Int.ofNat.inj e)
   by_cases a:ci s=h
   ·subst a
    have b:¬ ci v=ci s:=svi.symm
    simp only[List.filter_cons,decide_true,if_true,decide_eq_false b]
    simp
    lia
   ·by_cases b:ci v=h
    ·subst b
     have z:ts.filter (fun t=>decide (t.1=ci v))=[]:=List.filter_eq_nil_iff.mpr fun t ht=>by simpa using (nov t ht).1
     rw[z]
     exact Nat.le_trans (Nat.add_le_add_left (List.length_filter_le _ _) _) (by simp)
    ·have:=Tr.pre.most h
     simp[List.filter_cons,a,b]
     exact this
 have up:∀t∈ts,t∈ts++[(ci s,ci v),(ci v,ci s)]:=fun t ht=>List.mem_append_left _ ht
 have t1:T (ts++[(ci s,ci v),(ci v,ci s)]) s v:=List.mem_append_right _ (by simp)
 have t2:T (ts++[(ci s,ci v),(ci v,ci s)]) v s:=List.mem_append_right _ (by simp)
 have toS:∀a,a∈os.take k++[v]→∃j,Walk (ts++[(ci s,ci v),(ci v,ci s)]) j a s:=fun a ha=>by
  rcases List.mem_append.mp ha with z|z
  ·obtain⟨j,w⟩:=Tr.con a s z hs
   exact⟨j,w.mono up⟩
  ·simp at z;subst z;exact⟨1,Walk.one t2⟩
 have ofS:∀b,b∈os.take k++[v]→∃j,Walk (ts++[(ci s,ci v),(ci v,ci s)]) j s b:=fun b hb=>by
  rcases List.mem_append.mp hb with z|z
  ·obtain⟨j,w⟩:=Tr.con s b hs z
   exact⟨j,w.mono up⟩
  ·simp at z;subst z;exact⟨1,Walk.one t1⟩
 refine⟨P2,fun t ht=>?_,fun a b ha hb=>?_,?_⟩
 ·rw[tk]
  rcases List.mem_append.mp ht with z|z
  ·obtain⟨a,b,ha,hb,e⟩:=Tr.ends t z
   exact⟨a,b,List.mem_append_left _ ha,List.mem_append_left _ hb,e⟩
  ·simp at z
   rcases z with rfl|rfl
   ·exact⟨s,v,List.mem_append_left _ hs,by simp,rfl⟩
   ·exact⟨v,s,by simp,List.mem_append_left _ hs,rfl⟩
 ·rw[tk] at ha hb
  obtain⟨i,w1⟩:=toS a ha
  obtain⟨j,w2⟩:=ofS b hb
  exact⟨i+j,w1.trans w2⟩
 ·have:=Tr.len
  rw[List.length_append]
  simp
  lia
theorem Tree.fine{n:Nat}{os:List Nat}{ts:Ts}(Tr:Tree n os n ts)(n1:2≤n)(n2:n≤32)(pm:os.Perm (List.range n)):Fine n ts:=by
 have hl:os.length=n:=by rw[pm.length_eq,List.length_range]
 refine Tr.pre.fine n1 n2 fun a b ha hb=>Tr.con a b ?_ ?_
 ·rw[List.take_of_length_le (by lia)];exact pm.mem_iff.mpr (List.mem_range.mpr ha)
 ·rw[List.take_of_length_le (by lia)];exact pm.mem_iff.mpr (List.mem_range.mpr hb)
end NetM
namespace NetM
theorem yX{n:Nat}{ts:Ts}{h:Nat}(hh:h<n):(outN n ts h).Nodup:=(mP hh).imp fun {a b} hab e=>by subst e;lia
end NetM
namespace L2
open PySem PySem.Spec PyProof.Rows
section
variable {X:Cx}
theorem tR:∀ {ns:List Int} {its:List Value},Vals (ns.map V.int) its→∃xs:List (Int×Tok),its=xs.map (fun p=>Value.int p.1 p.2)∧xs.map (·.1)=ns
 |[],_,r=>by cases r;exact⟨[],rfl,rfl⟩
 |n::ns,_,r=>by
  cases r with
  |cons r rr=>
   obtain⟨t,rfl⟩:=(show ∃t,_=Value.int n t from r)
   obtain⟨xs,rfl,e⟩:=tR rr
   exact⟨(n,t)::xs,rfl,by rw[List.map_cons,e]⟩
def aEP(K:PySem.W.Frag):List V→Hp→VK→Prop:=fun xs H Q=>∃ (l:Addr) (ns:List Int),xs=[.ref l]∧SqL K H l (ns.map V.int)∧ns≠[]∧∀M,M∈ns→(∀a∈ns,a≤M)→Q (.int M) H
theorem aA4 (hc : X.calm = true) : cU X (.builtin "max") (aEP X.K) := by
  intro pins s σ H xs us Q I r h
  obtain ⟨l, ns, rfl, hl, hne, q⟩ := h
  obtain ⟨u1, rfl, r1⟩ := r.one
  obtain rfl : u1 = Value.ref l := r1
  obtain ⟨its, rv, pl, _⟩ := I.list hl
  obtain ⟨ps, rfl, rfl⟩ := tR rv
  have hi : intItems ps.toArray = (ps.map (fun p => Value.int p.1 p.2)).toArray := by unfold intItems; simp
  have hsz : 0 < ps.toArray.size := by
    cases ps with
    | nil => exact absurd rfl hne
    | cons p ps => simp
  refine max_intList (I.ok.hd hc) (xs := ps.toArray) (by rw [hi]; exact pl.isList) hsz fun v h' tk hv hk => ?_
  obtain ⟨t, rfl⟩ := intItems_at hv
  obtain ⟨h1, h2⟩ := argBest_gt (numAt ps.toArray) (ps.toArray.size - 1)
  have num : ∀ j, j < ps.length → numAt ps.toArray j ∈ ps.map (·.1) ∧ numAt ps.toArray j = (ps.map (·.1)).getD j 0 := fun j hj => by
    have e : numAt ps.toArray j = ps[j].1 := by unfold numAt; simp [List.getElem?_eq_getElem hj]
    refine ⟨by rw [e]; exact List.mem_map.mpr ⟨_, List.getElem_mem hj, rfl⟩, ?_⟩
    rw [e, List.getD_eq_getElem?_getD, List.getElem?_map, List.getElem?_eq_getElem hj]; rfl
  have hb : argBest (fun i j => decide (numAt ps.toArray i > numAt ps.toArray j)) (ps.toArray.size - 1) < ps.length := by
    have : ps.toArray.size = ps.length := by simp
    lia
  refine ⟨.int _, H, I.kept (t' := tk) hk, ⟨t, rfl⟩, q _ (num _ hb).1 fun a ha => ?_⟩
  obtain ⟨j, hj, e⟩ := List.mem_iff_getElem.mp ha
  rw [List.length_map] at hj
  have := h2 j (by have : ps.toArray.size = ps.length := by simp
                   lia)
  rw [(num j hj).2, List.getD_eq_getElem?_getD, List.getElem?_eq_getElem (by rw [List.length_map]; exact hj)] at this
  rw [← e]
  exact this
end
end L2
namespace NetM
abbrev swp(u:Int×Int):Int×Int:=(u.2,u.1)
def dbl(ps:Ts):Ts:=ps.flatMap fun u=>[u,swp u]
theorem jZ{ps qs:Ts}:dbl (ps++qs)=dbl ps++dbl qs:=List.flatMap_append
theorem eZ:∀ {ps:Ts},(dbl ps).Perm (ps++ps.map swp)
 |[]=>List.Perm.refl _
 |u::ps=>by
  have ih:=eZ (ps:=ps)
  show (u::swp u::dbl ps).Perm (u::(ps++swp u::ps.map swp))
  refine List.Perm.cons _ ?_
  exact(ih.cons _).trans List.perm_middle.symm
theorem mB:∀ {ps:Ts},(dbl ps).length=2*ps.length
 |[]=>rfl
 |u::ps=>by
  have ih:=mB (ps:=ps)
  show (dbl ps).length+2=2*(ps.length+1)
  lia
theorem xA{ps:Ts}{u:Int×Int}(h:u∈dbl ps):swp u∈dbl ps:=by
 obtain⟨v,hv,hu⟩:=List.mem_flatMap.mp h
 refine List.mem_flatMap.mpr ⟨v,hv,?_⟩
 rcases List.mem_cons.mp hu with e|e
 ·rw[e];exact List.mem_cons_of_mem _ (List.mem_singleton.mpr rfl)
 ·rw[List.mem_singleton.mp e];exact List.mem_cons_self
theorem jO{ps:Ts}{u:Int×Int}:u∈dbl ps↔u∈ps∨swp u∈ps:=by
 rw[(eZ (ps:=ps)).mem_iff,List.mem_append]
 refine or_congr Iff.rfl ⟨fun h=>?_,fun h=>List.mem_map.mpr ⟨_,h,rfl⟩⟩
 obtain⟨v,hv,rfl⟩:=List.mem_map.mp h
 exact hv
theorem xB{ps:Ts}:((dbl ps).map swp).Perm (dbl ps):=by
 refine((eZ (ps:=ps)).map swp).trans (List.Perm.trans ?_ (eZ (ps:=ps)).symm)
 rw[List.map_append,List.map_map]
 have e:ps.map (swp ∘ swp)=ps:=(List.map_congr_left fun u _=>rfl).trans (List.map_id ps)
 rw[e]
 exact List.perm_append_comm
def memB(x:Nat):List Nat→Bool
 |[]=>false
 |y::ys=>Nat.beq x y||memB x ys
theorem nE{x:Nat}:∀ {ys:List Nat},memB x ys=true↔x∈ys
 |[]=>by simp[memB]
 |y::ys=>by
  unfold memB
  rw[Bool.or_eq_true,nE (ys:=ys),List.mem_cons]
  exact or_congr ⟨fun h=>Nat.eq_of_beq_eq_true h,fun h=>by rw[h];exact Nat.beq_refl y⟩ Iff.rfl
def ndB:List Nat→Bool
 |[]=>true
 |x::xs=>!memB x xs&&ndB xs
theorem aA5:∀ {xs:List Nat},ndB xs=true→xs.Nodup
 |[],_=>List.nodup_nil
 |x::xs,h=>by
  unfold ndB at h
  rw[Bool.and_eq_true] at h
  refine List.nodup_cons.mpr ⟨fun z=>?_,aA5 h.2⟩
  rw[nE.mpr z] at h
  exact absurd h.1 (by decide)
def inc:List Nat→Bool
 |x::y::r=>Nat.ble x y&&inc (y::r)
 |_=>true
theorem aA6:∀ {xs:List Nat},inc xs=true→xs.Pairwise (·≤·)
 |[],_=>List.Pairwise.nil
 |[x],_=>List.pairwise_singleton _ _
 |x::y::r,h=>by
  unfold inc at h
  rw[Bool.and_eq_true] at h
  have ih:=aA6 h.2
  refine List.pairwise_cons.mpr ⟨fun z hz=>?_,ih⟩
  have h1:=Nat.le_of_ble_eq_true h.1
  rcases List.mem_cons.mp hz with e|e
  ·rw[e];exact h1
  ·exact Nat.le_trans h1 ((List.pairwise_cons.mp ih).1 z e)
abbrev ci2(q:Nat×Nat):Int×Int:=((q.1:Int),(q.2:Int))
def cds(qs:List (Nat×Nat)):List Nat:=qs.flatMap fun q=>[64*q.1+q.2,64*q.2+q.1]
def dec(c:Nat):Int×Int:=(((c / 64:Nat):Int),((c % 64:Nat):Int))
theorem tS{a b:Nat}(h:b<64):dec (64*a+b)=((a:Int),(b:Int)):=by
 unfold dec
 rw[show (64*a+b) / 64=a by lia,show (64*a+b) % 64=b by lia]
theorem mC:∀ {qs:List (Nat×Nat)},(∀q∈qs,q.1<64∧q.2<64)→(cds qs).map dec=dbl (qs.map ci2)
 |[],_=>rfl
 |q::qs,h=>by
  have ih:=mC (qs:=qs) fun x hx=>h x (List.mem_cons_of_mem _ hx)
  obtain⟨h1,h2⟩:=h q List.mem_cons_self
  show dec (64*q.1+q.2)::dec (64*q.2+q.1)::(cds qs).map dec=ci2 q::swp (ci2 q)::dbl (qs.map ci2)
  rw[ih,tS h2,tS h1]
def b1(b:Bool):Nat:=cond b 1 0
def cntB(h:Nat):List (Nat×Nat)→Nat
 |[]=>0
 |q::qs=>b1 (Nat.beq q.1 h)+(b1 (Nat.beq q.2 h)+cntB h qs)
theorem pJ{h:Nat}:∀ {qs:List (Nat×Nat)},((dbl (qs.map ci2)).filter fun t=>decide (t.1=(h:Int))).length=cntB h qs
 |[]=>rfl
 |q::qs=>by
  have ih:=pJ (h:=h) (qs:=qs)
  have e:∀a:Nat,(if decide ((a:Int)=(h:Int))=true then 1 else 0)=b1 (Nat.beq a h):=fun a=>by
   by_cases c:a=h
   ·subst c;rw[if_pos (by simp),Nat.beq_refl];rfl
   ·rw[if_neg (by simp;lia),show Nat.beq a h=false from Bool.eq_false_iff.mpr fun z=>c (Nat.eq_of_beq_eq_true z)];rfl
  show ((ci2 q::swp (ci2 q)::dbl (qs.map ci2)).filter _).length=b1 (Nat.beq q.1 h)+(b1 (Nat.beq q.2 h)+cntB h qs)
  rw[← ih,← e q.1,← e q.2,List.filter_cons,List.filter_cons]
  split <;> split <;> simp <;> lia
def yY(n:Nat)(qs:List (Nat×Nat)):Bool:=Nat.ble 2 n&&(Nat.ble n 32&&(ndB (cds qs)&&(qs.all (fun q=>Nat.blt q.1 n&&(Nat.blt q.2 n&&!Nat.beq q.1 q.2))&&((List.range n).all (fun h=>Nat.ble (cntB h qs) 8) &&
 (List.range n).all (fun v=>Nat.beq v 0||(List.range v).reverse.any (fun u=>memB (64*u+v) (cds qs)))))))
theorem iP{a b:Nat}(h:Nat.blt a b=true):a<b:=Nat.le_of_ble_eq_true h
theorem aBV{n:Nat}{qs:List (Nat×Nat)}(h:yY n qs=true):Fine n (dbl (qs.map ci2))∧∀q∈qs,q.1<64∧q.2<64:=by
 unfold yY at h
 simp only[Bool.and_eq_true,List.all_eq_true,List.mem_range,Bool.or_eq_true,List.any_eq_true,List.mem_reverse] at h
 obtain⟨h1,h2,h3,h4,h5,h6⟩:=h
 have h1:=Nat.le_of_ble_eq_true h1
 have h2:=Nat.le_of_ble_eq_true h2
 have q64:∀q∈qs,q.1<64∧q.2<64:=fun q hq=>⟨by have:=iP (h4 q hq).1;lia,by have:=iP (h4 q hq).2.1;lia⟩
 have mem:∀t∈dbl (qs.map ci2),∃q∈qs,t=ci2 q∨t=swp (ci2 q):=fun t ht=>by
  rcases jO.mp ht with z|z
  ·obtain⟨q,hq,e⟩:=List.mem_map.mp z;exact⟨q,hq,.inl e.symm⟩
  ·obtain⟨q,hq,e⟩:=List.mem_map.mp z;exact⟨q,hq,.inr (by rw[e])⟩
 have rg:∀t∈dbl (qs.map ci2),((0≤t.1∧t.1<n)∧(0≤t.2∧t.2<n))∧t.1≠t.2:=fun t ht=>by
  obtain⟨q,hq,e⟩:=mem t ht
  have a:=iP (h4 q hq).1
  have b:=iP (h4 q hq).2.1
  have c:q.1≠q.2:=fun z=>by have:=(h4 q hq).2.2;rw[z,Nat.beq_refl] at this;exact absurd this (by decide)
  rcases e with rfl|rfl
  ·exact⟨⟨⟨by show (0:Int)≤(q.1:Int);lia,by show (q.1:Int)<n;lia⟩,by show (0:Int)≤(q.2:Int);lia,by show (q.2:Int)<n;lia⟩,by show ((q.1:Nat):Int)≠(q.2:Nat);lia⟩
  ·exact⟨⟨⟨by show (0:Int)≤(q.2:Int);lia,by show (q.2:Int)<n;lia⟩,by show (0:Int)≤(q.1:Int);lia,by show (q.1:Int)<n;lia⟩,by show ((q.2:Nat):Int)≠(q.1:Nat);lia⟩
 have bal:∀h:Int,((dbl (qs.map ci2)).filter fun t=>decide (t.1=h)).length=((dbl (qs.map ci2)).filter fun t=>decide (t.2=h)).length:=fun h=>by
  rw[← (xB (ps:=qs.map ci2)).filter (fun t=>decide (t.1=h)) |>.length_eq,List.filter_map,List.length_map]
  rfl
 have nd:(dbl (qs.map ci2)).Nodup:=by
  rw[← mC q64]
  refine List.Pairwise.map _ (fun a b hab e=>hab ?_) (List.nodup_iff_pairwise_ne.mp (aA5 h3))
  have e1:a / 64=b / 64:=Int.ofNat.inj (congrArg Prod.fst e)
  have e2:a % 64=b % 64:=Int.ofNat.inj (congrArg Prod.snd e)
  lia
 refine⟨⟨h1,h2,nd,fun t ht=>(rg t ht).1,fun t ht=>(rg t ht).2,bal,fun h=>?_,fun a b ha hb=>?_⟩,q64⟩
 ·by_cases c:0≤h∧h<n
  ·have:=Nat.le_of_ble_eq_true (h5 h.toNat (by lia))
   rw[← pJ,Int.toNat_of_nonneg c.1] at this
   exact this
  ·have e:(dbl (qs.map ci2)).filter (fun t=>decide (t.1=h))=[]:=List.filter_eq_nil_iff.mpr fun t ht e=>c ((show t.1=h from of_decide_eq_true e) ▸ (rg t ht).1.1)
   rw[e];exact Nat.zero_le _
 ·have both:∀v,v<n→(∃k,Walk (dbl (qs.map ci2)) k 0 v)∧∃k,Walk (dbl (qs.map ci2)) k v 0:=by
   intro v
   induction v using Nat.strongRecOn with
   |ind v ih=>
    intro hv
    rcases h6 v hv with e|⟨u,hu,t1⟩
    ·have e:=Nat.eq_of_beq_eq_true e
     subst e;exact⟨⟨0,rfl⟩,0,rfl⟩
    ·obtain⟨⟨k,w⟩,l,w'⟩:=ih u hu (by lia)
     have t:T (dbl (qs.map ci2)) u v:=by
      have:=List.mem_map.mpr ⟨_,nE.mp t1,tS (a:=u) (b:=v) (by lia)⟩
      rw[mC q64] at this
      exact this
     have t':T (dbl (qs.map ci2)) v u:=xA t
     exact⟨⟨k+1,u,w,t⟩,l+1,Walk.cons t' w'⟩
  obtain⟨_,k,w⟩:=both a ha
  obtain⟨⟨l,w'⟩,_⟩:=both b hb
  exact⟨_,w.trans w'⟩
def lC(f b:Nat):List (Nat×Nat):=(List.range f).flatMap fun at_=>(List.range (b ^ f)).flatMap fun h=>(List.range (b-h / b ^ at_ % b-1)).map fun k=>(h,h+(k+1)*b ^ at_)
def figs(f b h:Nat):List Nat:=(List.range f).map fun k=>h / b ^ k % b
def unl(f b o p:Nat):Nat:=((List.range f).filter fun k=>!Nat.beq ((figs f b o).getD k 0) ((figs f b p).getD k 0)).length
def tT(f b:Nat):List Nat:=(List.range (b ^ f)).flatMap fun o=>((List.range (b ^ f)).filter fun p=>Nat.beq (unl f b o p) 1).map fun p=>64*o+p
def tU(f b:Nat):Ts:=(tT f b).map dec
def xC(f b:Nat):Bool:=yY (b ^ f) (lC f b)&&((cds (lC f b)).isPerm (tT f b)&&inc (tT f b))
theorem yZ:(List.range 6).all (fun f=>(List.range 6).all fun b=>Nat.blt f 1||(Nat.blt b 2||(Nat.blt 32 (b ^ f)||xC f b)))=true:=by decide +kernel
theorem zA{f b:Nat}(f1:1≤f)(f2:f≤5)(b1:2≤b)(b2:b≤5)(hm:b ^ f≤32):Fine (b ^ f) (dbl ((lC f b).map ci2))∧(dbl ((lC f b).map ci2)).Perm (tU f b)∧(tU f b).Pairwise (fun u v=>64*u.1+u.2≤64*v.1+v.2):=by
 have:=List.all_eq_true.mp (List.all_eq_true.mp yZ f (List.mem_range.mpr (by lia))) b (List.mem_range.mpr (by lia))
 rw[Bool.or_eq_true,Bool.or_eq_true,Bool.or_eq_true] at this
 rcases this with z|z|z|z
 ·have:=iP z;lia
 ·have:=iP z;lia
 ·have:=iP z;lia
 ·unfold xC at z
  rw[Bool.and_eq_true,Bool.and_eq_true] at z
  obtain⟨h1,h2,h3⟩:=z
  obtain⟨F,q64⟩:=aBV h1
  refine⟨F,?_,?_⟩
  ·rw[← mC q64]
   exact(List.isPerm_iff.mp h2).map dec
  ·unfold tU
   rw[List.pairwise_map]
   refine(aA6 h3).imp fun {a b} h=>?_
   unfold dec
   show 64*((a / 64:Nat):Int)+((a % 64:Nat):Int)≤64*((b / 64:Nat):Int)+((b % 64:Nat):Int)
   lia
end NetM
namespace NetM
def pr:List Nat→Nat
 |[]=>1
 |n::ns=>n*pr ns
def bxr(m st n:Nat):List (Nat×Nat):=((List.range m).filter fun h=>decide (h / st % n+1<n)).map fun h=>(h,h+st)
def bx(m:Nat):Nat→List Nat→List (Nat×Nat)
 |_,[]=>[]
 |st,n::ns=>bxr m st n++bx m (st*n) ns
def boxQ(ns:List Nat):List (Nat×Nat):=bx (pr ns) 1 ns
def UpS:Nat→List Nat→Nat→Nat→Prop
 |_,[],_,_=>False
 |st,n::ns,a,b=>(a / st % n+1<n∧b=a+st)∨UpS (st*n) ns a b
theorem xD{m st n:Nat}{q:Nat×Nat}:q∈bxr m st n↔q.1<m∧q.1 / st % n+1<n∧q.2=q.1+st:=by
 unfold bxr
 rw[List.mem_map]
 constructor
 ·rintro⟨h,hh,rfl⟩
  obtain⟨h1,h2⟩:=List.mem_filter.mp hh
  exact⟨List.mem_range.mp h1,of_decide_eq_true h2,rfl⟩
 ·rintro⟨h1,h2,h3⟩
  exact⟨q.1,List.mem_filter.mpr ⟨List.mem_range.mpr h1,decide_eq_true h2⟩,Prod.ext rfl h3.symm⟩
theorem oF{m:Nat}{q:Nat×Nat}:∀ {ns:List Nat} {st:Nat},q∈bx m st ns↔q.1<m∧UpS st ns q.1 q.2
 |[],st=>⟨fun h=>(nomatch h),fun h=>h.2.elim⟩
 |n::ns,st=>by
  unfold bx UpS
  rw[List.mem_append,xD,oF (ns:=ns)]
  constructor
  ·rintro(⟨a,b,c⟩|⟨a,b⟩)
   ·exact⟨a,.inl ⟨b,c⟩⟩
   ·exact⟨a,.inr b⟩
  ·rintro⟨a,⟨b,c⟩|b⟩
   ·exact .inl ⟨a,b,c⟩
   ·exact .inr ⟨a,b⟩
abbrev U(ns:List Nat):Nat→Nat→Prop:=UpS 1 ns
theorem pK:∀ {ns:List Nat} {st a b:Nat},0<st→(∀n∈ns,0<n)→(UpS st ns a b↔a % st=b % st∧U ns (a / st) (b / st))
 |[],st,a,b,h,_=>⟨fun z=>z.elim,fun z=>z.2.elim⟩
 |n::ns,st,a,b,h,hn=>by
  have hn0:=hn n List.mem_cons_self
  have hns:∀n∈ns,0<n:=fun x hx=>hn x (List.mem_cons_of_mem _ hx)
  show (_∨UpS (st*n) ns a b)↔a % st=b % st∧(_∨UpS (1*n) ns (a / st) (b / st))
  rw[Nat.one_mul,pK (Nat.mul_pos h hn0) hns,pK hn0 hns,Nat.div_one,Nat.div_div_eq_div_mul a st n,Nat.div_div_eq_div_mul b st n,Nat.mod_mul,Nat.mod_mul]
  have e1:=Nat.div_add_mod a st
  have e2:=Nat.div_add_mod b st
  constructor
  ·rintro(⟨c,rfl⟩|⟨c,d⟩)
   ·refine⟨by rw[Nat.add_mod_right],.inl ⟨c,by rw[Nat.add_div_right _ h]⟩⟩
   ·have m1:a % st=b % st:=by
     have:=congrArg (· % st) c
     simp only[Nat.add_mul_mod_self_left,Nat.mod_mod] at this
     exact this
    refine⟨m1,.inr ⟨?_,d⟩⟩
    rw[m1] at c
    exact Nat.eq_of_mul_eq_mul_left h (Nat.add_left_cancel c)
  ·rintro⟨m1,⟨c,d⟩|⟨c,d⟩⟩
   ·refine .inl ⟨c,?_⟩
    rw[← e2,d,← m1,Nat.mul_add,Nat.mul_one,Nat.add_right_comm,e1]
   ·exact .inr ⟨by rw[m1,c],d⟩
theorem tV{n:Nat}{ns:List Nat}{a b:Nat}(h:∀x∈n::ns,0<x):U (n::ns) a b↔(a % n+1<n∧b=a+1)∨(a % n=b % n∧U ns (a / n) (b / n)):=by
 show (_∨UpS (1*n) ns a b)↔_
 rw[Nat.one_mul,pK (h n List.mem_cons_self) fun x hx=>h x (List.mem_cons_of_mem _ hx),Nat.div_one]
theorem zB{a n:Nat}(h:a % n+1<n):(a+1) / n=a / n∧(a+1) % n=a % n+1:=by
 have e:=Nat.div_add_mod a n
 have e2:a+1=n*(a / n)+(a % n+1):=by lia
 have hn:0<n:=by lia
 rw[e2,Nat.mul_add_div hn,Nat.mul_add_mod,Nat.div_eq_of_lt h,Nat.mod_eq_of_lt h]
 exact⟨rfl,rfl⟩
theorem u_lt:∀ {ns:List Nat} {a b:Nat},(∀x∈ns,0<x)→U ns a b→a<pr ns→a<b∧b<pr ns
 |[],a,b,_,h,_=>h.elim
 |n::ns,a,b,hn,h,ha=>by
  have hn0:=hn n List.mem_cons_self
  have hns:∀n∈ns,0<n:=fun x hx=>hn x (List.mem_cons_of_mem _ hx)
  have ha':a<n*pr ns:=ha
  have hq:a / n<pr ns:=Nat.div_lt_of_lt_mul ha'
  show a<b∧b<n*pr ns
  rcases(tV hn).mp h with ⟨c,rfl⟩|⟨c,d⟩
  ·refine⟨by lia,?_⟩
   have e:=Nat.div_add_mod a n
   have:=Nat.mul_le_mul_left n hq
   rw[Nat.succ_eq_add_one,Nat.mul_add,Nat.mul_one] at this
   lia
  ·obtain⟨i1,i2⟩:=u_lt hns d hq
   refine⟨?_,?_⟩
   ·have e1:=Nat.div_add_mod a n
    have e2:=Nat.div_add_mod b n
    have:=Nat.mul_lt_mul_of_pos_left i1 hn0
    lia
   ·have e2:=Nat.div_add_mod b n
    have hm:=Nat.mod_lt b hn0
    have:=Nat.mul_le_mul_left n i2
    rw[Nat.succ_eq_add_one,Nat.mul_add,Nat.mul_one] at this
    lia
theorem aA7:∀ {ns:List Nat} {v:Nat},(∀x∈ns,0<x)→0<v→v<pr ns→∃u,u<v∧U ns u v
 |[],v,_,h1,h2=>by have h2:v<1:=h2;lia
 |n::ns,v,hn,h1,h2=>by
  have hn0:=hn n List.mem_cons_self
  have hns:∀n∈ns,0<n:=fun x hx=>hn x (List.mem_cons_of_mem _ hx)
  have lv:=Nat.mod_lt v hn0
  have ev:=Nat.div_add_mod v n
  by_cases c:v % n=0
  ·have hq:0<v / n:=by
    rcases Nat.eq_zero_or_pos (v / n) with z|z
    ·rw[z,c] at ev;simp at ev;lia
    ·exact z
   obtain⟨u,hu,uu⟩:=aA7 (v:=v / n) hns hq (Nat.div_lt_of_lt_mul h2)
   refine⟨n*u,?_,(tV hn).mpr (.inr ⟨by rw[Nat.mul_mod_right,c],by rw[Nat.mul_div_cancel_left _ hn0];exact uu⟩)⟩
   have:=Nat.mul_lt_mul_of_pos_left hu hn0
   lia
  ·have hv:v-1=n*(v / n)+(v % n-1):=by lia
   have hm:(v-1) % n=v % n-1:=by rw[hv,Nat.mul_add_mod,Nat.mod_eq_of_lt (by lia)]
   exact⟨v-1,by lia,(tV hn).mpr (.inl ⟨by lia,by lia⟩)⟩
end NetM
namespace NetM
theorem xE:∀ {ns:List Nat} {st a b:Nat},(∀x∈ns,0<x)→UpS st ns a b→a+st≤b
 |[],st,a,b,_,h=>h.elim
 |n::ns,st,a,b,hn,h=>by
  rcases h with ⟨_,rfl⟩|h
  ·exact Nat.le_refl _
  ·have:=xE (fun x hx=>hn x (List.mem_cons_of_mem _ hx)) h
   have h1:=Nat.le_mul_of_pos_right st (hn n List.mem_cons_self)
   lia
theorem aA8{m st n:Nat}:(bxr m st n).Nodup:=by
 unfold bxr
 refine List.nodup_iff_pairwise_ne.mpr (List.pairwise_map.mpr ?_)
 exact(List.nodup_iff_pairwise_ne.mp (List.nodup_range.sublist List.filter_sublist)).imp fun {a b} h e=>h (congrArg Prod.fst e)
theorem tW{m:Nat}:∀ {ns:List Nat} {st:Nat},0<st→(∀x∈ns,2≤x)→(bx m st ns).Nodup
 |[],_,_,_=>List.nodup_nil
 |n::ns,st,h,hn=>by
  have hn2:=hn n List.mem_cons_self
  have hns:∀x∈ns,2≤x:=fun x hx=>hn x (List.mem_cons_of_mem _ hx)
  refine List.nodup_append.mpr ⟨aA8,tW (Nat.mul_pos h (by lia)) hns,fun x hx y hy e=>?_⟩
  subst e
  have h1:=(xD.mp hx).2.2
  have h2:=xE (fun x hx=>by have:=hns x hx;lia) (oF.mp hy).2
  have h3:=Nat.mul_le_mul_left st hn2
  lia
theorem aA9{ps:Ts}(nd:ps.Nodup)(h:∀u∈ps,u.1<u.2):(dbl ps).Nodup:=by
 refine(eZ (ps:=ps)).nodup_iff.mpr (List.nodup_append.mpr ⟨nd,?_,fun x hx y hy e=>?_⟩)
 ·refine List.nodup_iff_pairwise_ne.mpr (List.pairwise_map.mpr ((List.nodup_iff_pairwise_ne.mp nd).imp fun {a b} hab e=>hab ?_))
  exact Prod.ext (congrArg Prod.snd e) (congrArg Prod.fst e)
 ·subst e
  obtain⟨u,hu,rfl⟩:=List.mem_map.mp hy
  have h1:=h _ hx
  have h2:=h u hu
  have h1:u.2<u.1:=h1
  lia
theorem aBa{qs:List (Nat×Nat)}(h:qs.Nodup):(qs.map ci2).Nodup:=by
 refine List.nodup_iff_pairwise_ne.mpr (List.pairwise_map.mpr ((List.nodup_iff_pairwise_ne.mp h).imp fun {a b} hab e=>hab ?_))
 exact Prod.ext (Int.ofNat.inj (congrArg Prod.fst e)) (Int.ofNat.inj (congrArg Prod.snd e))
theorem mS{h:Nat}:∀ {a b:List (Nat×Nat)},cntB h (a++b)=cntB h a+cntB h b
 |[],b=>by show cntB h b=0+_;lia
 |q::a,b=>by
  have:=mS (h:=h) (a:=a) (b:=b)
  show b1 _+(b1 _+cntB h (a++b))=b1 _+(b1 _+cntB h a)+cntB h b
  lia
theorem aCx{a b:Nat}:b1 (Nat.beq a b)=if a=b then 1 else 0:=by
 by_cases c:a=b
 ·subst c;rw[if_pos rfl,Nat.beq_refl];rfl
 ·rw[if_neg c,show Nat.beq a b=false from Bool.eq_false_iff.mpr fun z=>c (Nat.eq_of_beq_eq_true z)];rfl
theorem xF{h st:Nat}:∀ {L:List Nat},L.Nodup→cntB h (L.map fun x=>(x,x+st))≤(if h∈L then 1 else 0)+(if st≤h∧h-st∈L then 1 else 0)
 |[],_=>Nat.zero_le _
 |x::L,nd=>by
  obtain⟨n1,n2⟩:=List.nodup_cons.mp nd
  have ih:=xF (h:=h) (st:=st) n2
  show b1 (Nat.beq x h)+(b1 (Nat.beq (x+st) h)+cntB h (L.map fun x=>(x,x+st)))≤_
  rw[aCx,aCx]
  have e1:(if h∈x::L then 1 else 0)=(if x=h then 1 else 0)+(if h∈L then 1 else 0):=by
   by_cases c:x=h
   ·subst c;rw[if_pos List.mem_cons_self,if_pos rfl,if_neg n1]
   ·rw[if_neg c]
    by_cases d:h∈L
    ·rw[if_pos (List.mem_cons_of_mem _ d),if_pos d]
    ·rw[if_neg d,if_neg (fun z=>(List.mem_cons.mp z).elim (fun z=>c z.symm) d)]
  have e2:(if st≤h∧h-st∈x::L then 1 else 0)=(if x+st=h then 1 else 0)+(if st≤h∧h-st∈L then 1 else 0):=by
   by_cases c:x+st=h
   ·have e:h-st=x:=by lia
    rw[if_pos c,e,if_pos ⟨by lia,List.mem_cons_self⟩,if_neg (fun z=>n1 z.2)]
   ·rw[if_neg c]
    by_cases d:st≤h∧h-st∈L
    ·rw[if_pos d,if_pos ⟨d.1,List.mem_cons_of_mem _ d.2⟩]
    ·rw[if_neg d,if_neg]
     rintro⟨z1,z2⟩
     rcases List.mem_cons.mp z2 with z|z
     ·lia
     ·exact d ⟨z1,z⟩
  rw[e1,e2]
  lia
def wt:List Nat→Nat
 |[]=>0
 |n::ns=>(if n=2 then 1 else 2)+wt ns
theorem aC4{m st n h:Nat}(hs:0<st):cntB h (bxr m st n)≤if n=2 then 1 else 2:=by
 have c:=xF (h:=h) (st:=st) (L:=(List.range m).filter fun h=>decide (h / st % n+1<n)) (List.nodup_range.sublist List.filter_sublist)
 refine Nat.le_trans c ?_
 by_cases e:n=2
 ·rw[if_pos e]
  by_cases c1:h∈(List.range m).filter fun h=>decide (h / st % n+1<n)
  ·rw[if_pos c1,if_neg]
   ·lia
   ·rintro⟨z1,z2⟩
    have d1:h / st % n+1<n:=of_decide_eq_true (List.mem_filter.mp c1).2
    have d2:(h-st) / st % n+1<n:=of_decide_eq_true (List.mem_filter.mp z2).2
    have d3:h / st=(h-st) / st+1:=by
     have:=Nat.add_div_right (h-st) hs
     rw[show h-st+st=h by lia] at this
     exact this
    obtain⟨_,d4⟩:=zB d2
    rw[← d3] at d4
    lia
  ·rw[if_neg c1];split <;> lia
 ·rw[if_neg e];split <;> split <;> lia
theorem aBb{m h:Nat}:∀ {ns:List Nat} {st:Nat},0<st→(∀x∈ns,0<x)→cntB h (bx m st ns)≤wt ns
 |[],_,_,_=>Nat.le_refl _
 |n::ns,st,hs,hn=>by
  show cntB h (bxr m st n++bx m (st*n) ns)≤_+wt ns
  rw[mS]
  have h1:=aC4 (m:=m) (n:=n) (h:=h) hs
  have h2:=aBb (m:=m) (h:=h) (ns:=ns) (st:=st*n) (Nat.mul_pos hs (hn n List.mem_cons_self)) fun x hx=>hn x (List.mem_cons_of_mem _ hx)
  lia
theorem aBc:∀ {ns:List Nat},(∀x∈ns,2≤x)→3 ^ wt ns≤pr ns*pr ns
 |[],_=>Nat.le_refl _
 |n::ns,hn=>by
  have ih:=aBc (ns:=ns) fun x hx=>hn x (List.mem_cons_of_mem _ hx)
  have h2:=hn n List.mem_cons_self
  show 3 ^ ((if n=2 then 1 else 2)+wt ns)≤n*pr ns*(n*pr ns)
  rw[Nat.pow_add,Nat.mul_mul_mul_comm]
  refine Nat.mul_le_mul ?_ ih
  by_cases c:n=2
  ·rw[if_pos c,c];decide
  ·rw[if_neg c]
   have:3≤n:=by lia
   exact Nat.mul_le_mul this this
theorem aEQ{ns:List Nat}(hn:∀x∈ns,2≤x)(hp:pr ns≤32):wt ns≤8:=by
 refine Classical.byContradiction fun z=>?_
 have h1:3 ^ 9≤3 ^ wt ns:=Nat.pow_le_pow_right (by decide) (by lia)
 have h2:=aBc hn
 have h3:pr ns*pr ns≤32*32:=Nat.mul_le_mul hp hp
 have h4:(3:Nat) ^ 9=19683:=by decide
 lia
theorem aBW{ns:List Nat}(hn:∀x∈ns,2≤x)(h0:ns≠[])(hp:pr ns≤32):Fine (pr ns) (dbl ((boxQ ns).map ci2)):=by
 have hpos:∀x∈ns,0<x:=fun x hx=>by have:=hn x hx;lia
 have q:∀q∈boxQ ns,q.1<q.2∧q.2<pr ns:=fun q hq=>by
  obtain⟨a,b⟩:=oF.mp hq
  exact u_lt hpos b a
 have n1:2≤pr ns:=by
  cases ns with
  |nil=>exact absurd rfl h0
  |cons n ns=>
   have h2:=hn n List.mem_cons_self
   have:∀ {l:List Nat},(∀x∈l,2≤x)→1≤pr l:=fun {l}=>by
    induction l with
    |nil=>intro _;exact Nat.le_refl _
    |cons x l ih=>intro hl;exact Nat.mul_pos (by have:=hl x List.mem_cons_self;lia) (ih fun y hy=>hl y (List.mem_cons_of_mem _ hy))
   have h3:=this (l:=ns) fun x hx=>hn x (List.mem_cons_of_mem _ hx)
   show 2≤n*pr ns
   exact Nat.le_trans h2 (Nat.le_mul_of_pos_right n h3)
 have mem:∀t∈dbl ((boxQ ns).map ci2),∃q∈boxQ ns,t=ci2 q∨t=swp (ci2 q):=fun t ht=>by
  rcases jO.mp ht with z|z
  ·obtain⟨q,hq,e⟩:=List.mem_map.mp z;exact⟨q,hq,.inl e.symm⟩
  ·obtain⟨q,hq,e⟩:=List.mem_map.mp z;exact⟨q,hq,.inr (by rw[e])⟩
 have rg:∀t∈dbl ((boxQ ns).map ci2),((0≤t.1∧t.1<pr ns)∧(0≤t.2∧t.2<pr ns))∧t.1≠t.2:=fun t ht=>by
  obtain⟨p,hq,e⟩:=mem t ht
  obtain⟨a,b⟩:=q p hq
  rcases e with rfl|rfl
  ·exact⟨⟨⟨by show (0:Int)≤(p.1:Int);lia,by show (p.1:Int)<(pr ns:Int);lia⟩,by show (0:Int)≤(p.2:Int);lia,by show (p.2:Int)<(pr ns:Int);lia⟩,by show ((p.1:Nat):Int)≠(p.2:Nat);lia⟩
  ·exact⟨⟨⟨by show (0:Int)≤(p.2:Int);lia,by show (p.2:Int)<(pr ns:Int);lia⟩,by show (0:Int)≤(p.1:Int);lia,by show (p.1:Int)<(pr ns:Int);lia⟩,by show ((p.2:Nat):Int)≠(p.1:Nat);lia⟩
 have nd:(dbl ((boxQ ns).map ci2)).Nodup:=aA9 (aBa (tW (by decide) hn)) fun u hu=>by
  obtain⟨p,hq,rfl⟩:=List.mem_map.mp hu
  have:=(q p hq).1
  show (p.1:Int)<(p.2:Int)
  lia
 refine⟨n1,hp,nd,fun t ht=>(rg t ht).1,fun t ht=>(rg t ht).2,fun h=>?_,fun h=>?_,fun a b ha hb=>?_⟩
 ·rw[← (xB (ps:=(boxQ ns).map ci2)).filter (fun t=>decide (t.1=h)) |>.length_eq,List.filter_map,List.length_map]
  rfl
 ·by_cases c:0≤h∧h<pr ns
  ·have:=aBb (m:=pr ns) (h:=h.toNat) (ns:=ns) (st:=1) (by decide) hpos
   have e:=pJ (h:=h.toNat) (qs:=boxQ ns)
   rw[Int.toNat_of_nonneg c.1] at e
   rw[e]
   exact Nat.le_trans this (aEQ hn hp)
  ·have e:(dbl ((boxQ ns).map ci2)).filter (fun t=>decide (t.1=h))=[]:=List.filter_eq_nil_iff.mpr fun t ht e=>c ((show t.1=h from of_decide_eq_true e) ▸ (rg t ht).1.1)
   rw[e];exact Nat.zero_le _
 ·have both:∀v,v<pr ns→(∃k,Walk (dbl ((boxQ ns).map ci2)) k 0 v)∧∃k,Walk (dbl ((boxQ ns).map ci2)) k v 0:=by
   intro v
   induction v using Nat.strongRecOn with
   |ind v ih=>
    intro hv
    rcases Nat.eq_zero_or_pos v with e|e
    ·subst e;exact⟨⟨0,rfl⟩,0,rfl⟩
    ·obtain⟨u,hu,uu⟩:=aA7 hpos e hv
     obtain⟨⟨k,w⟩,l,w'⟩:=ih u hu (by lia)
     have t:T (dbl ((boxQ ns).map ci2)) u v:=jO.mpr (.inl (List.mem_map.mpr ⟨(u,v),oF.mpr ⟨by show u<pr ns;lia,uu⟩,rfl⟩))
     have t':T (dbl ((boxQ ns).map ci2)) v u:=xA t
     exact⟨⟨k+1,u,w,t⟩,l+1,Walk.cons t' w'⟩
  obtain⟨_,k,w⟩:=both a ha
  obtain⟨⟨l,w'⟩,_⟩:=both b hb
  exact⟨_,w.trans w'⟩
end NetM
namespace K12
open PySem L2
def top(i:Nat):Stmt:=PySem.Challenge.pw_neverwait_k34_hands_in_turn.main.body.getD i (.Pass ⟨0,0,0,0⟩)
abbrev tX:Stmt:=top 6
abbrev pL:Stmt:=top 7
abbrev tY:Stmt:=top 8
abbrev sRow:Stmt:=top 10
structure Bl(mg:Str→Option Value):Prop where
 isi:mg "isinstance"=none
 int:mg "int"=none
 bool:mg "bool"=none
 tup:mg "tuple"=none
 lst:mg "list"=none
 str:mg "str"=none
 set:mg "set"=none
 len:mg "len"=none
 range:mg "range"=none
 sorted:mg "sorted"=none
 any:mg "any"=none
 max:mg "max"=none
 min:mg "min"=none
 verr:mg "ValueError"=none
 all:mg "all"=none
def aBX(K:PySem.W.Frag)(H:Hp)(x:V):Prop:=∃t,TyX K H x t∧(PySem.W.kitOne K t (.type "int")=some false∨(PySem.W.kitOne K t (.type "int")=some true∧PySem.W.kitOne K t (.type "bool")=some true))
theorem vZ{K:PySem.W.Frag}:PySem.W.kitOne K (.type "int") (.type "int")=some true:=by kernel_rfl
theorem lD{K:PySem.W.Frag}:PySem.W.kitOne K (.type "int") (.type "bool")=some false:=by kernel_rfl
inductive Wh (K:PySem.W.Frag) (H:Hp):V→Option Int→Prop where
 |int (i:Int):Wh K H (.int i) (some i)
 |no {x:V} (h:aBX K H x):Wh K H x none
def pM(K:PySem.W.Frag):Sp:=fun vs H Q _=>∃x o,vs=[x]∧Wh K H x o∧Q (.bl o.isSome) H
section
variable {P:Program} {w:World} {K:PySem.W.Frag} {mg:Str→Option Value} {base:Heap}
theorem aC5:aW ["thing"] ["thing"] (aL tX):=⟨rfl,rfl,rfl,by decide +kernel,rfl,by decide +kernel,by decide +kernel⟩
theorem aBY{f:Addr}{fd:FuncData}(F:Fun K "is_whole" "is_whole" tX f fd)(B:Bl mg):FnOk P w K mg base CX0 1 f fd ["thing"] (pM K):=by
 refine F.ok aC5 (fun vs H Q E h=>?_) (fun cdv A outer s H vs Q E hr h=>?_)
 ·obtain⟨x,o,rfl,_⟩:=h
  rfl
 ·obtain⟨x,o,rfl,W,k⟩:=h
  refine⟨_,aI (bA (gQ (aU fY (by rfl) B.isi PyProof.Rows.boot_isinstance (aA (pv 0) (aA (iF (v:=.ty "int") rfl B.int PyProof.Rows.boot_int rfl) aD)))
   (jH (aAh (aU fY (by rfl) B.isi PyProof.Rows.boot_isinstance (aA (pv 0) (aA (iF (v:=.ty "bool") rfl B.bool PyProof.Rows.boot_bool rfl) aD))))))),?_⟩
  cases W with
  |int i=>
   refine⟨_,rfl,_,_,_,.type "int",true,rfl,⟨rfl,vZ⟩,.of (.int _),true,rfl,?_⟩
   exact⟨_,rfl,_,_,_,.type "int",false,rfl,⟨rfl,lD⟩,.of (.int _),false,rfl,k⟩
  |no h=>
   obtain⟨t,ty,h|⟨h1,h2⟩⟩:=h
   ·exact⟨_,rfl,_,_,_,t,false,rfl,⟨rfl,h⟩,ty,false,rfl,k⟩
   ·refine⟨_,rfl,_,_,_,t,true,rfl,⟨rfl,h1⟩,ty,true,rfl,?_⟩
    exact⟨_,rfl,_,_,_,t,true,rfl,⟨rfl,h2⟩,ty,true,rfl,k⟩
end
section
variable {P:Program} {w:World} {K:PySem.W.Frag} {mg:Str→Option Value} {base:Heap}
def eS(o:Option Int)(lo hi:Int):Bool:=match o with
 |some i=>decide (lo≤i)&&decide (i≤hi)
 |none=>false
def kA(K:PySem.W.Frag):Sp:=fun vs H Q _=>∃x o lo hi,vs=[x,.int lo,.int hi]∧Wh K H x o∧Q (.bl (eS o lo hi)) H
theorem aBZ:aW ["thing","least","most"] ["thing","least","most"] (aL pL):=⟨rfl,rfl,rfl,by decide +kernel,rfl,by decide +kernel,by decide +kernel⟩
theorem aBd{f:Addr}{fd:FuncData}(F:Fun K "is_whole_within" "is_whole_within" pL f fd)(W:Cal P w K mg base CX0 1 "is_whole" ["thing"] (pM K)):FnOk P w K mg base CX0 2 f fd ["thing","least","most"] (kA K):=by
 refine F.ok aBZ (fun vs H Q E h=>?_) (fun cdv A outer s H vs Q E hr h=>?_)
 ·obtain⟨x,o,lo,hi,rfl,_⟩:=h
  rfl
 ·obtain⟨x,o,lo,hi,rfl,wh,k⟩:=h
  refine⟨_,aI (bA (gQ (aN W hr aQ (aA (pv 0) aD)) (jH (aBG aCn aCn (pv 1) (pv 0) (pv 2))))),?_⟩
  refine⟨_,rfl,x,o,rfl,wh,?_⟩
  cases wh with
  |no h=>exact⟨false,rfl,k⟩
  |int i=>
   refine⟨true,rfl,_,rfl,_,rfl,_,_,rfl,rfl,_,rfl,?_⟩
   show if decide (lo≤i)=true then _ else _
   have k':Q (.bl (decide (lo≤i)&&decide (i≤hi))) H:=k
   by_cases h:lo≤i
   ·rw[decide_eq_true h] at k' ⊢
    exact⟨_,rfl,_,_,rfl,rfl,k'⟩
   ·rw[decide_eq_false h] at k' ⊢
    exact k'
def mD(K:PySem.W.Frag):Sp:=fun vs H Q _=>∃x o n,vs=[.int n,x]∧Wh K H x o∧Q (.bl (eS o 0 (n-1))) H
theorem aC6:aW ["many","thing"] ["many","thing"] (aL tY):=⟨rfl,rfl,rfl,by decide +kernel,rfl,by decide +kernel,by decide +kernel⟩
theorem aB0{f:Addr}{fd:FuncData}(F:Fun K "is_house" "is_house" tY f fd)(W:Cal P w K mg base CX0 2 "is_whole_within" ["thing","least","most"] (kA K)):FnOk P w K mg base CX0 3 f fd ["many","thing"] (mD K):=by
 refine F.ok aC6 (fun vs H Q E h=>?_) (fun cdv A outer s H vs Q E hr h=>?_)
 ·obtain⟨x,o,n,rfl,_⟩:=h
  rfl
 ·obtain⟨x,o,n,rfl,wh,k⟩:=h
  refine⟨_,aI (bA (aN W hr aQ (aA (pv 1) (aA aJ (aA (aV gU (pv 0) aJ) aD))))),?_⟩
  exact⟨_,rfl,_,rfl,_,_,rfl,rfl,x,o,0,n-1,rfl,wh,k⟩
inductive Rw (K:PySem.W.Frag) (H:Hp):V→Option (List V)→Prop where
 |tup {p:Addr} {xs:List V} (h:H p=some (.tup xs)):Rw K H (.ref p) (some xs)
 |no {x:V} {t:Value} (ty:TyX K H x t) (h:PySem.W.kitOne K t (.type "tuple")=some false):Rw K H x none
def aER(o:Option (List V))(m:Int):Bool:=match o with
 |some xs=>decide ((xs.length:Int)=m)
 |none=>false
theorem xG{K:PySem.W.Frag}:PySem.W.kitOne K (.type "tuple") (.type "tuple")=some true:=by kernel_rfl
def zC(K:PySem.W.Frag):Sp:=fun vs H Q _=>∃x o m,vs=[x,.int m]∧Rw K H x o∧Q (.bl (aER o m)) H
theorem aES:aW ["thing","length"] ["thing","length"] (aL sRow):=⟨rfl,rfl,rfl,by decide +kernel,rfl,by decide +kernel,by decide +kernel⟩
theorem aD9{f:Addr}{fd:FuncData}(F:Fun K "is_row" "is_row" sRow f fd)(B:Bl mg):FnOk P w K mg base CX0 1 f fd ["thing","length"] (zC K):=by
 refine F.ok aES (fun vs H Q E h=>?_) (fun cdv A outer s H vs Q E hr h=>?_)
 ·obtain⟨x,o,m,rfl,_⟩:=h
  rfl
 ·obtain⟨x,o,m,rfl,W,k⟩:=h
  refine⟨_,aI (bA (gQ (aU fY (by rfl) B.isi PyProof.Rows.boot_isinstance (aA (pv 0) (aA (iF (v:=.ty "tuple") rfl B.tup PyProof.Rows.boot_tuple rfl) aD)))
   (jH (jI dX (aU bC (by rfl) B.len PySem.boot_len (aA (pv 0) aD)) (pv 1) (aZ _))))),?_⟩
  cases W with
  |@tup p xs h=>
   refine⟨_,rfl,_,_,_,.type "tuple",true,rfl,⟨rfl,xG⟩,.of (.tup h),true,rfl,?_⟩
   refine⟨_,rfl,_,_,rfl,.inr (SqT.of h),_,rfl,rfl,?_⟩
   have e:decide (V.int ((xs.length:Nat):Int)=V.int m)=decide (((xs.length:Nat):Int)=m):=by simp
   rw[e]
   exact k
  |no ty h=>exact⟨_,rfl,_,_,_,_,false,rfl,⟨rfl,h⟩,ty,false,rfl,k⟩
end
end K12
namespace K12
open PySem L2
theorem bE{D:Addr}{H H':Hp}{o:HO}(s:Same H H')(hD:H D=none):Same H (upd H' D o):=fun b u e=>by rw[aH (aG e hD)];exact s b u e
abbrev IV(ns:List Int):List V:=ns.map V.int
abbrev NV(ns:List Nat):List V:=ns.map fun (x:Nat)=>V.int (x:Int)
theorem if_k{c:TT}{t u:TS}{D:Ends}{σ:St}{H:Hp}(Gy Gn:Hp→Prop)(hy:∀H,Gy H→t D σ H)(hn:∀H,Gn H→u D σ H)(ht:∀Y N:Hp→Prop,(∀H,Gy H→Y H)→(∀H,Gn H→N H)→c σ H fun b H1=>if b=true then Y H1 else N H1):tIfS c t u D σ H:=ht _ _ hy hn
theorem kB{t u:TS}{D:Ends}{σ:St}{H:Hp}(G:St→Hp→Prop)(hr:∀σ H,G σ H→u D σ H)(ht:∀N:St→Hp→Prop,(∀σ H,G σ H→N σ H)→t { D with nx:=N } σ H):tSeq t u D σ H:=ht _ hr
abbrev Zs:=List (Addr×(Int×Int))
abbrev prT(u:Int×Int):HO:=.tup [.int u.1,.int u.2]
def zr(zs:Zs):List V:=zs.map fun z=>V.ref z.1
def zp(zs:Zs):List (Int×Int):=zs.map (·.2)
def PO(H:Hp)(zs:Zs):Prop:=∀z∈zs,H z.1=some (prT z.2)
theorem dL{a b:Zs}:zr (a++b)=zr a++zr b:=List.map_append
theorem dM{a b:Zs}:zp (a++b)=zp a++zp b:=List.map_append
theorem cL{a:Zs}:(zr a).length=a.length:=List.length_map _
theorem bH{a:Zs}:(zp a).length=a.length:=List.length_map _
theorem gC{a:Zs}:zr a=(a.map (·.1)).map V.ref:=by unfold zr;rw[List.map_map];rfl
theorem lE{zs:Zs}{i:Nat}{x:V}(h:(zr zs)[i]?=some x):∃z,zs[i]?=some z∧x=.ref z.1:=by
 unfold zr at h
 rw[List.getElem?_map] at h
 cases e:zs[i]? with
 |none=>rw[e] at h;cases h
 |some z=>rw[e] at h;exact⟨z,rfl,(Option.some.inj h).symm⟩
theorem PO.nil{H:Hp}:PO H []:=fun z hz=>(nomatch hz)
theorem PO.same{H H':Hp}{zs:Zs}(h:PO H zs)(s:Same H H'):PO H' zs:=fun z hz=>s _ _ (h z hz)
theorem PO.putL{H:Hp}{D:Addr}{xs:List V}{o:HO}{zs:Zs}(h:PO H zs)(e:H D=some (.lst xs)):PO (upd H D o) zs:=fun z hz=>by
 have:=h z hz
 rw[aH (by rintro rfl;rw[e] at this;cases this)];exact this
theorem PO.putN{H:Hp}{D:Addr}{o:HO}{zs:Zs}(h:PO H zs)(e:H D=none):PO (upd H D o) zs:=h.same (aE e)
theorem PO.append{H:Hp}{a b:Zs}(h:PO H a)(h':PO H b):PO H (a++b):=fun z hz=>(List.mem_append.mp hz).elim (h z) (h' z)
theorem PO.one{H:Hp}{p:Addr}{u:Int×Int}(h:H p=some (prT u)):PO H [(p,u)]:=fun z hz=>by rw[List.mem_singleton.mp hz];exact h
theorem tZ{zs:Zs}{i:Nat}(h:i<zs.length):(zs.map (·.1)).getD i 0=zs[i].1:=by
 rw[List.getD_eq_getElem?_getD,List.getElem?_map,List.getElem?_eq_getElem h];rfl
theorem xH{zs:Zs}{i:Nat}(h:i<zs.length):(zp zs).getD i (0,0)=zs[i].2:=by
 unfold zp
 rw[List.getD_eq_getElem?_getD,List.getElem?_map,List.getElem?_eq_getElem h];rfl
theorem aBe{H:Hp}{zs:Zs}(ho:PO H zs):∃g:Addr→Int×Int,(∀z∈zs,g z.1=z.2)∧∀ {as:List Addr},as.Perm (zs.map (·.1))→∃zs':Zs,zs'.Perm zs∧as=zs'.map (·.1):=by
 classical
 let f:Addr→Int×Int:=fun a=>match H a with
  |some (.tup [.int x,.int y])=>(x,y)
  |_=>(0,0)
 have e2:∀z∈zs,f z.1=z.2:=fun z hz=>by
  show (match H z.1 with|some (.tup [.int x,.int y])=>(x,y)|_=>(0,0))=z.2
  rw[ho z hz]
 have e:(zs.map (·.1)).map (fun a=>(a,f a))=zs:=by
  rw[List.map_map]
  conv=>rhs;rw[← List.map_id zs]
  refine List.map_congr_left fun z hz=>?_
  show (z.1,f z.1)=z
  rw[e2 z hz]
 refine⟨f,e2,fun {as} h=>⟨as.map fun a=>(a,f a),?_,?_⟩⟩
 ·have:=h.map (fun a=>(a,f a))
  rw[e] at this
  exact this
 ·rw[List.map_map]
  exact(List.map_id as).symm
abbrev Ord(us:List (Int×Int)):Prop:=us.Pairwise fun u v=>pk u≤pk v
theorem aC7{K:PySem.W.Frag}{H:Hp}{l:Addr}{zs:Zs}{Q:VK}(hl:H l=some (.lst (zr zs)))(ho:PO H zs)(hz:zs.length≤4096)(hb:∀u∈zp zs,0≤u.2∧u.2<64)(q:∀ (D:Addr) (zs':Zs),H D=none→zs'.Perm zs→Ord (zp zs')→Q (.ref D) (upd H D (.lst (zr zs')))):aA1 K [.ref l] H Q:=by
 obtain⟨g,hg,lift⟩:=aBe ho
 refine⟨l,zs.map (·.1),g,rfl,SqL.of (by rw[← gC];exact hl),fun a ha=>?_,by rw[List.length_map];exact hz,fun D as' hD hp so=>?_⟩
 ·obtain⟨z,hz,rfl⟩:=List.mem_map.mp ha
  rw[hg z hz]
  exact⟨SqT.of (ho z hz),hb _ (List.mem_map.mpr ⟨z,hz,rfl⟩)⟩
 ·obtain⟨zs',h1,rfl⟩:=lift hp
  rw[← gC]
  refine q D zs' hD h1 ?_
  unfold zp Ord
  rw[List.pairwise_map] at so ⊢
  refine so.imp_of_mem fun {a b} ha hb h=>?_
  rw[hg a (h1.mem_iff.mp ha),hg b (h1.mem_iff.mp hb)] at h
  exact h
theorem uA{lo:Int}{n:Nat}{D:Addr}{g:TG}{tt:TT}{te:TE}{fin:Hp→Prop}{σB:St}{H0:Hp}(F:Nat→Int×Int)(shape:St→Prop)(hD:H0 D=none)(hn:n≤100000)(h0:shape σB)(hs:∀i σ H (R:V→St→Hp→Prop) (Kf:St→Hp→Prop),i<n→shape σ→Same H0 H→(∀σ2 p,shape σ2→H p=none→R (.ref p) σ2 (upd H p (prT (F i))))→g (.int (lo+i)) σ H fun σ2 H2=>tt σ2 H2 fun b H3=>if b=true then te σ2 H3 fun v H4=>R v σ2 H4 else Kf σ2 H3)(hd:∀zs H,Same H0 H→H D=some (.lst (zr zs))→PO H zs→zp zs=(List.range n).map F→(∀z∈zs,H0 z.1=none)→fin H):dP (Itr lo n) g tt te D fin σB (upd H0 D (.lst [])):=by
 refine dZ (fun i ys σ H=>shape σ∧Same H0 H∧H D=some (.lst ys)∧∃zs:Zs,ys=zr zs∧PO H zs∧zp zs=(List.range i).map F∧∀z∈zs,H0 z.1=none) ⟨h0,aE hD,aB,[],rfl,PO.nil,rfl,fun z hz=>nomatch hz⟩ ?_ ?_
 ·rintro i ys σ H Kt Kf hi ⟨sh,sm,hDl,zs,rfl,po,ep,fr⟩ kt kf
  have hl:zs.length=i:=by rw[← bH,ep,List.length_map,List.length_range]
  refine hs i σ H Kt Kf hi sh sm (fun σ2 p sh2 hp=>?_)
  ·have nD:D≠p:=aG hDl hp
   refine kt _ _ _ (by rw[aH nD];exact hDl) (by rw[cL,hl];exact Nat.lt_of_lt_of_le hi (Nat.le_trans hn (by decide))) ⟨sh2,bE (sm.trans (aE hp)) hD,aB,zs++[(p,F i)],?_,?_,?_,?_⟩
   ·rw[dL];rfl
   ·refine PO.putL (xs:=zr zs) ?_ (by rw[aH nD];exact hDl)
    exact(po.putN hp).append (PO.one aB)
   ·rw[dM,ep,List.range_succ,List.map_append];rfl
   ·intro z hz
    rcases List.mem_append.mp hz with z'|z'
    ·exact fr z z'
    ·rw[List.mem_singleton.mp z'];exact sm.free hp
 ·rintro ys σ H ⟨_,sm,hDl,zs,rfl,po,ep,fr⟩
  exact hd zs H sm hDl po ep fr
theorem nF{K:PySem.W.Frag}{a D:Addr}{zs0:Zs}{g:TG}{tt:TT}{te:TE}{fin:Hp→Prop}{σB:St}{H0:Hp}(F:Int×Int→Int×Int)(shape:St→Prop)(ha:H0 a=some (.lst (zr zs0)))(hp0:PO H0 zs0)(hD:H0 D=none)(hn:zs0.length≤100000)(h0:shape σB)(hs:∀z σ H (R:V→St→Hp→Prop) (Kf:St→Hp→Prop),z∈zs0→shape σ→Same H0 H→H z.1=some (prT z.2)→(∀σ2 p,shape σ2→H p=none→R (.ref p) σ2 (upd H p (prT (F z.2))))→g (.ref z.1) σ H fun σ2 H2=>tt σ2 H2 fun b H3=>if b=true then te σ2 H3 fun v H4=>R v σ2 H4 else Kf σ2 H3)(hd:∀zs H,Same H0 H→H D=some (.lst (zr zs))→PO H zs→zp zs=(zp zs0).map F→(∀z∈zs,H0 z.1=none)→fin H):dP (Itl K a) g tt te D fin σB (upd H0 D (.lst [])):=by
 refine dI (xs:=zr zs0) (fun i ys σ H=>shape σ∧Same H0 H∧H D=some (.lst ys)∧∃zs:Zs,ys=zr zs∧PO H zs∧zp zs=((zp zs0).take i).map F∧∀z∈zs,H0 z.1=none) ⟨h0,aE hD,aB,[],rfl,PO.nil,rfl,fun z hz=>nomatch hz⟩ (fun i ys σ H _ z=>SqL.of (z.2.1 _ _ ha)) ?_ ?_
 ·rintro i x ys σ H Kt Kf hx ⟨sh,sm,hDl,zs,rfl,po,ep,fr⟩ kt kf
  obtain⟨z,hz,rfl⟩:=lE hx
  have hi:i<zs0.length:=(List.getElem?_eq_some_iff.mp hz).1
  have hzm:z∈zs0:=List.mem_of_getElem? hz
  have hl:zs.length=i:=by rw[← bH,ep,List.length_map,List.length_take,bH];lia
  refine hs z σ H Kt Kf hzm sh sm (sm _ _ (hp0 z hzm)) (fun σ2 p sh2 hp=>?_)
  ·have nD:D≠p:=aG hDl hp
   refine kt _ _ _ (by rw[aH nD];exact hDl) (by rw[cL,hl];exact Nat.lt_of_lt_of_le hi (Nat.le_trans hn (by decide))) ⟨sh2,bE (sm.trans (aE hp)) hD,aB,zs++[(p,F z.2)],?_,?_,?_,?_⟩
   ·rw[dL];rfl
   ·refine PO.putL (xs:=zr zs) ?_ (by rw[aH nD];exact hDl)
    exact(po.putN hp).append (PO.one aB)
   ·have e2:(zp zs0)[i]?=some z.2:=by unfold zp;rw[List.getElem?_map,hz];rfl
    rw[dM,ep,List.take_add_one,e2,Option.toList_some,List.map_append];rfl
   ·intro z hz
    rcases List.mem_append.mp hz with z'|z'
    ·exact fr z z'
    ·rw[List.mem_singleton.mp z'];exact sm.free hp
 ·rintro ys σ H ⟨_,sm,hDl,zs,rfl,po,ep,fr⟩
  rw[cL,← bH,List.take_length] at ep
  exact hd zs H sm hDl po ep fr
end K12
namespace K12
open PySem L2
open NetM
abbrev rH:Stmt:=iH (top 25) 0
abbrev sOut:Stmt:=iH (top 25) 3
abbrev sFar:Stmt:=iH (top 25) 4
abbrev zD:Stmt:=iH (top 25) 6
abbrev uB:Stmt:=iH (top 25) 8
theorem n12:¬ (("house_count":Str)="tie_list"):=by decide +kernel
theorem n13:¬ (("house_count":Str)="out_lists"):=by decide +kernel
theorem n14:¬ (("house_count":Str)="distances"):=by decide +kernel
theorem n34:¬ (("out_lists":Str)="distances"):=by decide +kernel
def flds(n:Int)(tl ol ds:Addr):List (Str×V):=putF "distances" (.ref ds) (putF "out_lists" (.ref ol) (putF "tie_list" (.ref tl) (putF "house_count" (.int n) [])))
theorem aC8(n:Int)(tl ol ds:Addr):(flds n tl ol ds).lookup ("house_count":Str)=some (.int n):=by
 unfold flds
 rw[bQ,if_neg n14,bQ,if_neg n13,bQ,if_neg n12,bQ,if_pos rfl]
theorem mE(n:Int)(tl ol ds:Addr){m:Str}(h1:¬ m="house_count")(h2:¬ m="tie_list")(h3:¬ m="out_lists")(h4:¬ m="distances"):(flds n tl ol ds).lookup m=none:=by
 unfold flds
 rw[bQ,if_neg h4,bQ,if_neg h3,bQ,if_neg h2,bQ,if_neg h1]
 all_goals rfl
theorem xI(n:Int)(tl ol ds:Addr):(flds n tl ol ds).lookup ("out_lists":Str)=some (.ref ol):=by
 unfold flds
 rw[bQ,if_neg n34,bQ,if_pos rfl]
theorem xJ(n:Int)(tl ol ds:Addr):(flds n tl ol ds).lookup ("distances":Str)=some (.ref ds):=by
 unfold flds
 rw[bQ,if_pos rfl]
def bL(H:Hp)(L:Addr→Prop)(l:Addr)(n:Nat)(r:Nat→List Nat):Prop:=∃bs:List Addr,H l=some (.lst (bs.map V.ref))∧(∀b∈bs,L b)∧Holds H bs n (fun h=>.lst (NV (r h)))
theorem bL.keep{H H':Hp}{L:Addr→Prop}{l:Addr}{n:Nat}{r:Nat→List Nat}(R:bL H L l n r)(hl:L l)(k:∀b o,L b→H b=some o→H' b=some o):bL H' L l n r:=
 let ⟨bs,a,b,c⟩:=R
 ⟨bs,k _ _ hl a,b,c.mono fun j hj e=>k _ _ (b _ (by rw[List.getD_eq_getElem?_getD,List.getElem?_eq_getElem (by rw[c.1];exact hj)];exact List.getElem_mem _)) e⟩
theorem bL.row{H:Hp}{L:Addr→Prop}{l:Addr}{n:Nat}{r:Nat→List Nat}(R:bL H L l n r){h:Nat}(hh:h<n):∃ (bs:List Addr) (b:Addr),H l=some (.lst (bs.map V.ref))∧(bs.map V.ref)[h]?=some (V.ref b)∧H b=some (.lst (NV (r h)))∧L b:=by
 obtain⟨bs,a,b,c⟩:=R
 have hl:h<bs.length:=by rw[c.1];exact hh
 refine⟨bs,bs[h],a,by rw[List.getElem?_map,List.getElem?_eq_getElem hl];rfl,?_,b _ (List.getElem_mem _)⟩
 have:=c.2 h hh
 rw[List.getD_eq_getElem?_getD,List.getElem?_eq_getElem hl] at this
 exact this
def TieL(H:Hp)(L:Addr→Prop)(tl:Addr)(ts:Ts):Prop:=L tl∧∃zs:Zs,H tl=some (.lst (zr zs))∧PO H zs∧(∀z∈zs,L z.1)∧(zp zs).Perm ts∧Ord (zp zs)
theorem TieL.keep{H H':Hp}{L:Addr→Prop}{tl:Addr}{ts:Ts}(h:TieL H L tl ts)(k:∀b o,L b→H b=some o→H' b=some o):TieL H' L tl ts:=
 let ⟨a,zs,b,c,d,e⟩:=h;⟨a,zs,k _ _ a b,fun z hz=>k _ _ (d z hz) (c z hz),d,e⟩
structure cA(C:Addr)(H:Hp)(L:Addr→Prop)(p:Addr)(n:Nat)(ts:Ts):Prop where
 fine:Fine n ts
 ob:∃dx tl ol ds,H p=some (.ins C dx (flds n tl ol ds))∧L ol∧L ds∧bL H L ol n (outN n ts)∧bL H L ds n (fun h=>(List.range n).map (far ts h))∧TieL H L tl ts
theorem cA.keep{C:Addr}{H H':Hp}{L:Addr→Prop}{p:Addr}{n:Nat}{ts:Ts}(N:cA C H L p n ts)(k:∀b o,L b→H b=some o→H' b=some o)(kp:∀o,H p=some o→H' p=some o):cA C H' L p n ts:=
 let ⟨dx,tl,ol,ds,a,l1,l2,b,c,d⟩:=N.ob
 ⟨N.fine,dx,tl,ol,ds,kp _ a,l1,l2,b.keep l1 k,c.keep l2 k,d.keep k⟩
theorem cA.same{C:Addr}{H H':Hp}{L:Addr→Prop}{p:Addr}{n:Nat}{ts:Ts}(N:cA C H L p n ts)(s:Same H H'):cA C H' L p n ts:=N.keep (fun b o _ e=>s b o e) (fun o e=>s _ o e)
structure NT(K:PySem.W.Frag)(mg:Str→Option Value)(C:Addr):Prop where
 cl:Cls K C
 nH:eQ K C "house_count"
 nT:eQ K C "tie_list"
 nO:eQ K C "out_lists"
 nD:eQ K C "distances"
 mgC:mg "Net"=some (.ref C)
structure MCal(P:Program)(w:World)(K:PySem.W.Frag)(mg:Str→Option Value)(base:Heap)(CX:CXT)(k:Nat)(C:Addr)(x:Str)(ps:List Str)(sp:Sp):Prop where
 ex:∃f fd,Meth K C x f∧fL K fd ps []∧FnOk P w K mg base CX k f fd ps sp
section
variable {P:Program} {w:World} {K:PySem.W.Frag} {mg:Str→Option Value} {base:Heap}
theorem aC9:aW ["self","thing"] ["self","thing"] (aL uB):=⟨rfl,rfl,rfl,by decide +kernel,rfl,by decide +kernel,by decide +kernel⟩
theorem aBf{i n:Nat}(h:i<n):eS (some (i:Int)) 0 ((n:Int)-1)=true:=by unfold eS;simp;lia
def kC(C:Addr):Sp:=fun vs H Q _=>∃ (L:Addr→Prop) (p:Addr) (n:Nat) (ts:Ts) (i:Nat),vs=[.ref p,.int i]∧cA C H L p n ts∧i<n∧Q .non H
theorem aBg{f C:Addr}{fd:FuncData}(F:Fun K "check_house" "Net.check_house" uB f fd)(T:NT K mg C)(HH:Cal P w K mg base CX0 3 "is_house" ["many","thing"] (mD K)):
  FnOk P w K mg base CX0 4 f fd ["self","thing"] (kC C):=by
 refine F.ok aC9 (fun vs H Q E h=>?_) (fun cdv A outer s H vs Q E hr h=>?_)
 ·obtain⟨L,p,n,ts,i,rfl,_⟩:=h
  rfl
 ·obtain⟨L,p,n,ts,i,rfl,N,hi,k⟩:=h
  obtain⟨dx,tl,ol,ds,h1,_⟩:=N.ob
  refine⟨_,aI (bZ (jG (fJ (aN HH hr aQ (aA (iL (pv 0) rfl) (aA (pv 1) aD))))) dW bS),?_⟩
  refine⟨_,rfl,p,C,dx,_,_,rfl,h1,T.cl,T.nH,aC8 _ _ _ _,_,rfl,_,some (i:Int),n,rfl,.int _,_,rfl,?_⟩
  rw[aBf hi]
  exact iteF k
theorem nchk(n:Int)(tl ol ds:Addr):(flds n tl ol ds).lookup ("check_house":Str)=none:=mE n tl ol ds (by decide +kernel) (by decide +kernel) (by decide +kernel) (by decide +kernel)
theorem nfar(n:Int)(tl ol ds:Addr):(flds n tl ol ds).lookup ("far":Str)=none:=mE n tl ol ds (by decide +kernel) (by decide +kernel) (by decide +kernel) (by decide +kernel)
theorem bD{xs:List Nat}:(NV xs).length=xs.length:=List.length_map _
theorem aET:aW ["self","house"] ["self","house"] (aL sOut):=⟨rfl,rfl,rfl,by decide +kernel,rfl,by decide +kernel,by decide +kernel⟩
def uC(C:Addr):Sp:=fun vs H Q _=>∃ (L:Addr→Prop) (p:Addr) (n:Nat) (ts:Ts) (i:Nat),vs=[.ref p,.int i]∧cA C H L p n ts∧i<n∧∀r H',Same H H'→H r=none→H' r=some (.lst (NV (outN n ts i)))→Q (.ref r) H'
theorem aDa{f C:Addr}{fd:FuncData}(F:Fun K "out" "Net.out" sOut f fd)(T:NT K mg C)(B:Bl mg)(M:MCal P w K mg base CX0 4 C "check_house" ["self","thing"] (kC C)):
  FnOk P w K mg base CX0 5 f fd ["self","house"] (uC C):=by
 obtain⟨fM,fdM,mM,bM,GM⟩:=M.ex
 refine F.ok aET (fun vs H Q E h=>?_) (fun cdv A outer s H vs Q E hr h=>?_)
 ·obtain⟨L,p,n,ts,i,rfl,_⟩:=h
  rfl
 ·obtain⟨L,p,n,ts,i,rfl,N,hi,k2⟩:=h
  obtain⟨dx,tl,ol,ds,h1,_,_,R,_⟩:=N.ob
  refine⟨_,aF (bV (fW (pv 0) T.cl mM GM hr bM .nil aQ (aA (pv 1) aD)))
   (aI (bA (cJ sJ (by rfl) B.lst PyProof.Rows.boot_list (aA (aS aP (iL (pv 0) rfl) (pv 1) (fun _ _=>rfl)) aD)))),?_⟩
  refine⟨_,rfl,p,dx,_,rfl,h1,nchk _ _ _ _,_,rfl,L,p,n,ts,i,rfl,N,hi,?_⟩
  obtain⟨bs,b,r1,r2,r3,_⟩:=R.row hi
  exact⟨_,rfl,p,C,dx,_,_,rfl,h1,T.cl,T.nO,xI _ _ _ _,_,rfl,ol,_,_,_,rfl,rfl,SqL.of r1,aM r2,b,_,rfl,.inl (SqL.of r3),fun l hl=>k2 l _ (aE hl) hl aB⟩
theorem aEU:aW ["self","one","other"] ["self","one","other"] (aL sFar):=⟨rfl,rfl,rfl,by decide +kernel,rfl,by decide +kernel,by decide +kernel⟩
def uD(C:Addr):Sp:=fun vs H Q _=>∃ (L:Addr→Prop) (p:Addr) (n:Nat) (ts:Ts) (i j:Nat),vs=[.ref p,.int i,.int j]∧cA C H L p n ts∧i<n∧j<n∧Q (.int (far ts i j:Nat)) H
theorem aDb{f C:Addr}{fd:FuncData}(F:Fun K "far" "Net.far" sFar f fd)(T:NT K mg C)(M:MCal P w K mg base CX0 4 C "check_house" ["self","thing"] (kC C)):
  FnOk P w K mg base CX0 5 f fd ["self","one","other"] (uD C):=by
 obtain⟨fM,fdM,mM,bM,GM⟩:=M.ex
 refine F.ok aEU (fun vs H Q E h=>?_) (fun cdv A outer s H vs Q E hr h=>?_)
 ·obtain⟨L,p,n,ts,i,j,rfl,_⟩:=h
  rfl
 ·obtain⟨L,p,n,ts,i,j,rfl,N,hi,hj,k⟩:=h
  obtain⟨dx,tl,ol,ds,h1,_,_,_,R,_⟩:=N.ob
  refine⟨_,aF (bV (fW (pv 0) T.cl mM GM hr bM .nil aQ (aA (pv 1) aD)))
   (aF (bV (fW (pv 0) T.cl mM GM hr bM .nil aQ (aA (pv 2) aD)))
   (aI (bA (aS aP (aS aP (iL (pv 0) rfl) (pv 1) (fun _ _=>rfl)) (pv 2) (fun _ _=>rfl))))),?_⟩
  refine⟨_,rfl,p,dx,_,rfl,h1,nchk _ _ _ _,_,rfl,L,p,n,ts,i,rfl,N,hi,?_⟩
  refine⟨_,rfl,p,dx,_,rfl,h1,nchk _ _ _ _,_,rfl,L,p,n,ts,j,rfl,N,hj,?_⟩
  obtain⟨bs,b,r1,r2,r3,_⟩:=R.row hi
  have hg:(NV ((List.range n).map (far ts i)))[j]?=some (.int (far ts i j:Nat)):=by
   rw[List.getElem?_map,List.getElem?_map,List.getElem?_range hj];rfl
  exact⟨_,rfl,p,C,dx,_,_,rfl,h1,T.cl,T.nD,xJ _ _ _ _,_,rfl,ds,_,_,_,rfl,rfl,SqL.of r1,aM r2,_,rfl,b,_,_,_,rfl,rfl,SqL.of r3,aM hg,k⟩
end
end K12
namespace K12
open PySem L2 NetM
abbrev uE:Stmt:=top 26
abbrev sTie:Stmt:=top 27
abbrev sBal:Stmt:=top 28
section
variable {P:Program} {w:World} {K:PySem.W.Frag} {mg:Str→Option Value} {base:Heap}
abbrev sUnl:Stmt:=top 9
theorem aEV:aW ["many","one","other"] ["many","one","other"] (aL sUnl):=⟨rfl,rfl,rfl,by decide +kernel,rfl,by decide +kernel,by decide +kernel⟩
def zE:Sp:=fun vs H Q _=>∃ (n a b:Int),vs=[.int n,.int a,.int b]∧0≤a∧a<n∧0≤b∧b<n∧a≠b∧Q (.bl true) H
theorem aEa{f:Addr}{fd:FuncData}(F:Fun K "are_unlike_houses" "are_unlike_houses" sUnl f fd)(HH:Cal P w K mg base CX0 3 "is_house" ["many","thing"] (mD K)):
  FnOk P w K mg base CX0 4 f fd ["many","one","other"] zE:=by
 refine F.ok aEV (fun vs H Q E h=>?_) (fun cdv A outer s H vs Q E hr h=>?_)
 ·obtain⟨n,a,b,rfl,_⟩:=h
  rfl
 ·obtain⟨n,a,b,rfl,a1,a2,b1,b2,hne,k⟩:=h
  refine⟨_,aI (bA (gQ (aN HH hr aQ (aA (pv 0) (aA (pv 1) aD))) (gQ (aN HH hr aQ (aA (pv 0) (aA (pv 2) aD))) (jH (jI rD (pv 1) (pv 2) (aZ _)))))),?_⟩
  refine⟨_,rfl,_,rfl,_,_,n,rfl,.int a,_,rfl,?_⟩
  rw[if_pos (show eS (some a) 0 (n-1)=true by unfold eS;simp;lia)]
  refine⟨_,rfl,_,rfl,_,_,n,rfl,.int b,_,rfl,?_⟩
  rw[if_pos (show eS (some b) 0 (n-1)=true by unfold eS;simp;lia)]
  refine⟨_,rfl,_,rfl,rfl,?_⟩
  have e:(!decide (V.int a=V.int b))=true:=by simp[hne]
  rw[e]
  exact k
theorem aEW:aW ["many","thing"] ["many","thing"] (aL sTie):=⟨rfl,rfl,rfl,by decide +kernel,rfl,by decide +kernel,by decide +kernel⟩
def zF:Sp:=fun vs H Q _=>∃ (n:Int) (p:Addr) (a b:Int),vs=[.int n,.ref p]∧H p=some (.tup [.int a,.int b])∧0≤a∧a<n∧0≤b∧b<n∧a≠b∧Q (.bl true) H
theorem aEb{f:Addr}{fd:FuncData}(F:Fun K "is_tie" "is_tie" sTie f fd)(R:Cal P w K mg base CX0 1 "is_row" ["thing","length"] (zC K))(U:Cal P w K mg base CX0 4 "are_unlike_houses" ["many","one","other"] zE):
  FnOk P w K mg base CX0 5 f fd ["many","thing"] zF:=by
 refine F.ok aEW (fun vs H Q E h=>?_) (fun cdv A outer s H vs Q E hr h=>?_)
 ·obtain⟨n,p,a,b,rfl,_⟩:=h
  rfl
 ·obtain⟨n,p,a,b,rfl,hp,a1,a2,b1,b2,hne,k⟩:=h
  refine⟨_,aI (bA (gQ (aN R (hr.mono (by decide)) aQ (aA (pv 1) (aA aJ aD)))
   (jH (aN U hr aQ (aA (pv 0) (aA (aS eJ (pv 1) aJ (fun _ _=>rfl)) (aA (aS eJ (pv 1) aJ (fun _ _=>rfl)) aD))))))),?_⟩
  refine⟨_,rfl,_,_,_,rfl,.tup hp,true,rfl,?_⟩
  exact⟨_,rfl,_,rfl,p,_,_,_,rfl,rfl,SqT.of hp,aM (j:=0) rfl,_,rfl,p,_,_,_,rfl,rfl,SqT.of hp,aM (j:=1) rfl,n,a,b,rfl,a1,a2,b1,b2,hne,k⟩
theorem xK:aW ["many","ties","tie"] ["many","ties"] (aL uE):=⟨rfl,rfl,rfl,by decide +kernel,rfl,by decide +kernel,by decide +kernel⟩
theorem aB1{K:PySem.W.Frag}:PySem.W.kitOne K (.type "list") (.type "list")=some true:=by kernel_rfl
structure eE(H:Hp)(l:Addr)(n:Nat)(zs:Zs):Prop where
 fine:Fine n (zp zs)
 at_:H l=some (.lst (zr zs))
 po:PO H zs
theorem eE.same{H H':Hp}{l:Addr}{n:Nat}{zs:Zs}(h:eE H l n zs)(s:Same H H'):eE H' l n zs:=⟨h.fine,s _ _ h.at_,h.po.same s⟩
def iI:Sp:=fun vs H Q _=>∃ (n:Nat) (l:Addr) (zs:Zs),vs=[.int n,.ref l]∧eE H l n zs∧∀H',Same H H'→Q .non H'
theorem aB2{f:Addr}{fd:FuncData}(F:Fun K "check_ties" "check_ties" uE f fd)(B:Bl mg)(gF:∃t,mg "FEWEST_HOUSES"=some (.int 2 t))(gM:∃t,mg "MOST_HOUSES"=some (.int 32 t))(W:Cal P w K mg base CX0 2 "is_whole_within" ["thing","least","most"] (kA K))(T:Cal P w K mg base CX0 5 "is_tie" ["many","thing"] zF):
  FnOk P w K mg base CX0 6 f fd ["many","ties"] iI:=by
 obtain⟨tF,gF⟩:=gF
 obtain⟨tM,gM⟩:=gM
 refine F.ok xK (fun vs H Q E h=>?_) (fun cdv A outer s H vs Q E hr h=>?_)
 ·obtain⟨n,l,zs,rfl,_⟩:=h
  rfl
 ·refine⟨_,aF (bZ (jG (fJ (aN W (hr.mono (by decide)) aQ (aA (pv 0) (aA (lN (v:=.int 2) rfl gF ⟨_,rfl⟩) (aA (lN (v:=.int 32) rfl gM ⟨_,rfl⟩) aD)))))) dW bS)
   (aF (bZ (jG (fJ (aU fY (by rfl) B.isi PyProof.Rows.boot_isinstance (aA (pv 1) (aA (iF (v:=.ty "list") rfl B.lst PyProof.Rows.boot_list rfl) aD))))) dW bS)
   (aF (cH PassesOwn.never rfl (bN (pv 1)) (aK (i:=2) xK.nd rfl (Or.inl rfl)) (aI (bZ (jG (fJ (aN T hr aQ (aA (pv 0) (aA (pv 2) aD))))) dW bS)))
   (aI (bZ (aX rD (aU vP (by rfl) B.len PySem.boot_len (aA (cJ (aAN rfl (by have:=hr.un;show (A.deeper _).units+8<_;lia)) (by rfl) B.set PyProof.Rows.boot_set (aA (pv 1) aD)) aD)) (aU bC (by rfl) B.len PySem.boot_len (aA (pv 1) aD)) (aZ _)) dW bS)))),?_⟩
  obtain⟨n,l,zs,rfl,tt,k⟩:=h
  obtain⟨fi,hl,po⟩:=id tt
  have n1:=fi.n1
  have n2:=fi.n2
  refine⟨_,rfl,_,_,2,32,rfl,.int n,_,rfl,?_⟩
  rw[show eS (some (n:Int)) 2 32=true by unfold eS;simp;lia]
  refine iteF ?_
  refine⟨_,rfl,_,_,_,.type "list",true,rfl,⟨rfl,aB1⟩,.of (.lst hl),_,rfl,iteF ?_⟩
  refine⟨_,rfl,l,rfl,⟨_,SqL.of hl⟩,dN (K:=K) (a:=l) (xs:=zr zs) (fun i σ H2=>H2=H∧∃v,σ=[some (.int n),some (.ref l),v]) ⟨rfl,none,rfl⟩ (fun i σ H2 _ ⟨e,_⟩=>by rw[e];exact SqL.of hl) ?_ ?_⟩
  ·rintro i x σ H2 hx ⟨rfl,v,rfl⟩
   obtain⟨z,hz,rfl⟩:=lE hx
   have hzm:z∈zs:=List.mem_of_getElem? hz
   have hzp:z.2∈zp zs:=List.mem_map.mpr ⟨z,hzm,rfl⟩
   have r:=fi.rg _ hzp
   exact⟨_,rfl,_,rfl,n,_,_,_,rfl,po z hzm,r.1.1,r.1.2,r.2.1,r.2.2,fi.ne _ hzp,_,rfl,iteF ⟨rfl,_,rfl⟩⟩
  ·rintro σ H2 ⟨rfl,v,rfl⟩
   have hlen:(zp zs).length≤256:=fi.len
   refine⟨_,rfl,l,zs.map (·.1),zp zs,rfl,SqL.of (by rw[← gC];exact hl),by rw[List.length_map,bH],fun i hi=>?_,fi.nd,fun y hy=>?_,by lia,fun D hD=>?_⟩
   ·rw[bH] at hi
    rw[tZ hi,xH hi]
    exact SqT.of (po _ (List.getElem_mem hi))
   ·have r:=fi.rg _ hy
    lia
   ·have nl:l≠D:=aG hl hD
    refine⟨D,_,rfl,aB,by lia,_,rfl,l,zr zs,rfl,.inl (SqL.of (by rw[aH nl];exact hl)),rfl,_,rfl,?_⟩
    have ez:(!decide (V.int (((zp zs).length:Nat):Int)=V.int (((zr zs).length:Nat):Int)))=false:=by rw[bH,cL];simp
    rw[ez]
    exact iteF (k _ (aE hD))
end
end K12
namespace K12
open PySem L2 NetM
abbrev oG:Stmt:=top 29
section
variable {P:Program} {w:World} {K:PySem.W.Frag} {mg:Str→Option Value} {base:Heap}
theorem lF{zs:Zs}{l D:Addr}{H:Hp}{g:TG}{tt:TT}{te:TE}{fin:Hp→Prop}{σB:St}(S:St→Prop)(p q:Int×Int→Int)(h:Int)(hD:H D=none)(hl:H l=some (.lst (zr zs)))(po:PO H zs)(hn:zs.length≤1000)(s0:S σB)(hg:∀z σ H2 (Kt:V→St→Hp→Prop) (Kf:St→Hp→Prop),z∈zs→S σ→H2 z.1=some (prT z.2)→(∀σ2,S σ2→p z.2=h→Kt (.int (q z.2)) σ2 H2)→(∀σ2,S σ2→p z.2≠h→Kf σ2 H2)→
   g (.ref z.1) σ H2 fun σ2 H2=>tt σ2 H2 fun b H3=>if b=true then te σ2 H3 fun v H4=>Kt v σ2 H4 else Kf σ2 H3)(hd:fin (upd H D (.lst (IV (((zp zs).filter fun y=>decide (p y=h)).map q))))):dP (Itl K l) g tt te D fin σB (upd H D (.lst [])):=by
 have nl:l≠D:=aG hl hD
 have tk:∀ {i:Nat} {z:Addr×(Int×Int)},zs[i]?=some z→(zp zs).take (i+1)=(zp zs).take i++[z.2]:=fun {i z} hz=>by
  rw[List.take_add_one,show (zp zs)[i]?=some z.2 by unfold zp;rw[List.getElem?_map,hz];rfl];rfl
 refine dI (xs:=zr zs) (fun i ys σ H2=>S σ∧ys=IV ((((zp zs).take i).filter fun y=>decide (p y=h)).map q)∧H2=upd H D (.lst ys)) ⟨s0,by simp,rfl⟩ (fun i ys σ H2 _ ⟨_,_,e⟩=>by rw[e];exact SqL.of (by rw[aH nl];exact hl)) ?_ ?_
 ·rintro i x ys σ H2 Kt Kf hx ⟨hS,ey,rfl⟩ kt kf
  obtain⟨z,hz,rfl⟩:=lE hx
  have hzm:z∈zs:=List.mem_of_getElem? hz
  have hp:=po z hzm
  have na:z.1≠D:=aG hp hD
  have hi:i<zs.length:=(List.getElem?_eq_some_iff.mp hz).1
  refine hg z σ _ Kt Kf hzm hS (by rw[aH na];exact hp) (fun σ2 s2 e=>?_) (fun σ2 s2 e=>?_)
  ·refine kt _ _ _ aB ?_ ⟨s2,?_,?_⟩
   ·rw[ey,List.length_map,List.length_map]
    exact Nat.lt_of_le_of_lt (List.length_filter_le _ _) (Nat.lt_of_le_of_lt (List.length_take_le _ _) (Nat.lt_of_lt_of_le (show i<1000 by lia) (by decide)))
   ·rw[ey,tk hz,List.filter_append,List.map_append]
    have:decide (p z.2=h)=true:=by simp[e]
    simp[List.filter_cons,this]
   ·rw[iE]
  ·refine kf _ _ ⟨s2,?_,rfl⟩
   have:decide (p z.2=h)=false:=by simp[e]
   rw[ey,tk hz,List.filter_append]
   simp[List.filter_cons,this]
 ·rintro ys σ H2 ⟨_,ey,rfl⟩
  rw[cL,← bH,List.take_length] at ey
  rw[ey]
  exact hd
theorem nb3:(["one","other","house"]:List Str).Nodup:=by decide +kernel
theorem rJ:aW ["many","ties","house","leading_out","leading_in"] ["many","ties"] (aL sBal):=⟨rfl,rfl,rfl,by decide +kernel,rfl,by decide +kernel,by decide +kernel⟩
theorem aEc{f:Addr}{fd:FuncData}(F:Fun K "check_balance" "check_balance" sBal f fd)(B:Bl mg)(gM:∃t,mg "MOST_TIES_OUT"=some (.int 8 t)):
  FnOk P w K mg base CX0 1 f fd ["many","ties"] iI:=by
 obtain⟨tM,gM⟩:=gM
 refine F.ok rJ (fun vs H Q E h=>?_) (fun cdv A outer s H vs Q E hr h=>?_)
 ·obtain⟨n,l,zs,rfl,_⟩:=h
  rfl
 ·obtain⟨n,l,zs,rfl,T,k⟩:=h
  have fi:=T.fine
  have n1:=fi.n1
  have n2:=fi.n2
  have hlen:zs.length≤256:=by have:=fi.len;rw[bH] at this;exact this
  refine'⟨_,aI (cH PassesOwn.never rfl (bT rfl B.range (aA (pv 0) aD)) (aK (i:=2) rJ.nd rfl (Or.inr rfl))
   (aF (aT (i:=3) rJ.nd rfl (Or.inl rfl) (aU bC (by rfl) B.len PySem.boot_len (aA ?c1 aD)))
   (aF (aT (i:=4) rJ.nd rfl (Or.inl rfl) (aU bC (by rfl) B.len PySem.boot_len (aA ?c2 aD)))
   (aF (bZ (aX rD (pv 3) (pv 4) (aZ _)) dW bS)
   (aI (bZ (aX aCo (pv 3) (lN (v:=.int 8) rfl gM ⟨_,rfl⟩) (aZ _)) dW bS)))))),?_⟩
  case c1=>
   refine' cG (g:=gTup K 2 (cY (bB 0) (cY (bB 1) gNil))) (NB:=["one","other","house"]) (src:=[none,none,some 2]) (bP (by kernel_rfl)) rfl (bN (pv 1)) ?g ?t ?e
   case g=>exact fun cl C s₃ H₃ fp=>cM (n:=2) rfl (aR (aK (i:=0) nb3 rfl (Or.inl rfl) (Or.inr rfl)) (aR (aK (i:=1) nb3 rfl (Or.inl rfl) (Or.inr rfl)) cF))
   case t=>exact fun cl C s₃ H₃ fp=>dF (aX dX (pv 0) (pv 2) (aZ _))
   case e=>exact fun cl C s₃ H₃ fp=>pv 0
  case c2=>
   refine' cG (g:=gTup K 2 (cY (bB 0) (cY (bB 1) gNil))) (NB:=["one","other","house"]) (src:=[none,none,some 2]) (bP (by kernel_rfl)) rfl (bN (pv 1)) ?g ?t ?e
   case g=>exact fun cl C s₃ H₃ fp=>cM (n:=2) rfl (aR (aK (i:=0) nb3 rfl (Or.inl rfl) (Or.inr rfl)) (aR (aK (i:=1) nb3 rfl (Or.inl rfl) (Or.inr rfl)) cF))
   case t=>exact fun cl C s₃ H₃ fp=>dF (aX dX (pv 1) (pv 2) (aZ _))
   case e=>exact fun cl C s₃ H₃ fp=>pv 1
  refine⟨_,rfl,n,rfl,by lia,by lia,cR (n:=n) (lo:=0) (fun i σ H2=>Same H H2∧∃a b c,σ=[some (.int n),some (.ref l),a,b,c]) ⟨Same.refl _,none,none,none,rfl⟩ ?_ ?_⟩
  ·rintro i σ H2 hi ⟨sm,a,b,c,rfl⟩
   have T2:=T.same sm
   refine⟨_,rfl,l,rfl,⟨_,SqL.of T2.at_⟩,fun D hD=>lF (fun σ=>∃a b,σ=[a,b,some (.int (0+(i:Int)))]) (·.1) (·.1) (0+(i:Int)) hD T2.at_ T2.po (by lia) ⟨_,_,rfl⟩ ?_ ?_⟩
   ·rintro z σ H3 Kt Kf hj ⟨x,y,rfl⟩ ha kt kf
    refine⟨z.1,_,rfl,SqT.of ha,rfl,_,_,rfl,_,_,rfl,rfl,?_⟩
    refine⟨_,rfl,_,rfl,rfl,_,rfl,?_⟩
    refine ite2 (fun e=>?_) (fun e=>?_)
    ·exact⟨_,rfl,kt _ ⟨_,_,rfl⟩ (by simpa using e)⟩
    ·exact kf _ ⟨_,_,rfl⟩ (by simpa using e)
   ·refine⟨D,_,rfl,.inl (SqL.of aB),?_⟩
    have sm2:=bE (o:=.lst (IV (((zp zs).filter fun y=>decide (y.1=0+(i:Int))).map (·.1)))) (sm.trans (Same.refl _)) (H:=H) (by cases z:H D with|none=>rfl|some o=>rw[sm _ _ z] at hD;cases hD)
    have T3:=T.same sm2
    refine⟨_,rfl,l,rfl,⟨_,SqL.of T3.at_⟩,fun D' hD'=>lF (fun σ=>∃a b,σ=[a,b,some (.int (0+(i:Int)))]) (·.2) (·.2) (0+(i:Int)) hD' T3.at_ T3.po (by lia) ⟨_,_,rfl⟩ ?_ ?_⟩
    ·rintro z σ H3 Kt Kf hj ⟨x,y,rfl⟩ ha kt kf
     refine⟨z.1,_,rfl,SqT.of ha,rfl,_,_,rfl,_,_,rfl,rfl,?_⟩
     refine⟨_,rfl,_,rfl,rfl,_,rfl,?_⟩
     refine ite2 (fun e=>?_) (fun e=>?_)
     ·exact⟨_,rfl,kt _ ⟨_,_,rfl⟩ (by simpa using e)⟩
     ·exact kf _ ⟨_,_,rfl⟩ (by simpa using e)
    ·refine⟨D',_,rfl,.inl (SqL.of aB),?_⟩
     rw[Int.zero_add] at *
     have q1:(IV (((zp zs).filter fun y=>decide (y.1=(i:Int))).map (·.1))).length=(IV (((zp zs).filter fun y=>decide (y.2=(i:Int))).map (·.2))).length:=by
      rw[List.length_map,List.length_map,List.length_map,List.length_map];exact fi.bal i
     have q2:(IV (((zp zs).filter fun y=>decide (y.1=(i:Int))).map (·.1))).length≤8:=by
      rw[List.length_map,List.length_map];exact fi.most i
     refine⟨_,rfl,_,rfl,rfl,_,rfl,?_⟩
     rw[← q1]
     rw[show (!decide (V.int (((IV (((zp zs).filter fun y=>decide (y.1=(i:Int))).map (·.1))).length:Nat):Int)=V.int (((IV (((zp zs).filter fun y=>decide (y.1=(i:Int))).map (·.1))).length:Nat):Int)))=false by simp]
     refine iteF ?_
     refine⟨_,rfl,_,_,rfl,rfl,_,rfl,?_⟩
     rw[show decide ((((IV (((zp zs).filter fun y=>decide (y.1=(i:Int))).map (·.1))).length:Nat):Int) > 8)=false by rw[decide_eq_false_iff_not];lia]
     exact iteF ⟨sm2.trans (aE hD'),_,_,_,rfl⟩
  ·rintro σ H2 ⟨sm,a,b,c,rfl⟩
   exact k H2 sm
end
end K12
namespace K12
open PySem L2 NetM
def lamE:Expr:=match (cB oG).getD 1 (.Pass ⟨0,0,0,0⟩) with
 |.Return (some (.Call _ _ (k::_) _)) _=>k.value
 |_=>.Name "x" ⟨0,0,0,0⟩
def aDc:Arguments:=match lamE with
 |.Lambda a _ _ _=>a
 |_=>{ posonlyargs:=[],args:=[],vararg:=none,kwonlyargs:=[],kw_defaults:=[],kwarg:=none,defaults:=[] }
def aDd:Expr:=match lamE with
 |.Lambda _ b _ _=>b
 |e=>e
def aEX:Scope:=match lamE with
 |.Lambda _ _ s _=>s
 |_=>{ kind:=.function,names:=[],isGenerator:=false,isCoroutine:=false }
def aEd:Pos:=match lamE with
 |.Lambda _ _ _ p=>p
 |_=>⟨0,0,0,0⟩
def aCy:Str:=("houses_out":Str)++".<locals>."++"<lambda>"
abbrev Tab(Pt:Addr)(H:Hp):Prop:=yO aEd aCy Pt H
def oH(Pt:Addr)(H H':Hp):Prop:=∀b o,H b=some o→b≠Pt→H' b=some o
theorem oH.of{Pt:Addr}{H H':Hp}(a:Same H H'):oH Pt H H':=fun c o h _=>a c o h
theorem Tab.not{Pt:Addr}{H:Hp}(t:Tab Pt H){b:Addr}{o:HO}(h:H b=some o)(n:∀ps,o≠.tbl ps):b≠Pt:=by
 rintro rfl
 rcases t with z|⟨c,z,_⟩ <;> · rw[h] at z;exact n _ (Option.some.inj z)
theorem Tab.same{Pt:Addr}{H H':Hp}(t:Tab Pt H)(e:Same H H'):Tab Pt H':=by
 rcases t with z|⟨c,z,y⟩
 ·exact .inl (e _ _ z)
 ·exact .inr ⟨c,e _ _ z,e _ _ y⟩
theorem aDe{n a b h:Int}(hn:0<n)(a0:0≤a)(a1:a<n)(b0:0≤b)(b1:b<n)(e:(a-h) % n=(b-h) % n):a=b:=by
 have h1:=Int.emod_emod_of_dvd (a-h) (Int.dvd_refl n)
 have q:(a-b) % n=0:=by
  have:a-b=(a-h)-(b-h):=by lia
  rw[this,Int.sub_emod,e,Int.sub_self,Int.zero_emod]
 obtain⟨c,hc⟩:=Int.dvd_of_emod_eq_zero q
 have c0:c=0:=by
  rcases Int.lt_trichotomy c 0 with z|z|z
  ·have:n*c≤n*(-1):=Int.mul_le_mul_of_nonneg_left (by lia) (by lia)
   lia
  ·exact z
  ·have:n*1≤n*c:=Int.mul_le_mul_of_nonneg_left (by lia) (by lia)
   lia
 rw[c0] at hc
 lia
theorem rA{ts:Ts}{h:Int}(nd:ts.Nodup):((ts.filter fun y=>decide (y.1=h)).map (·.2)).Nodup:=by
 refine L2.kY (nd.filter _) fun x hx y hy e=>?_
 have a:=(List.mem_filter.mp hx).2
 have b:=(List.mem_filter.mp hy).2
 simp at a b
 exact Prod.ext (a.trans b.symm) e
theorem aBh{n:Nat}{ts:Ts}{h:Nat}(F:Fine n ts)(hh:h<n){out:List Int}(ko:KOut (h:Int) (n:Int) ((ts.filter fun y=>decide (y.1=(h:Int))).map (·.2)) out):out.map V.int=NV (outN n ts h):=by
 obtain⟨ps,hp,rfl,hs⟩:=ko
 have hout:(ps.map (·.2)).Perm ((ts.filter fun y=>decide (y.1=(h:Int))).map (·.2)):=by
  have:=hp.map (·.2)
  rw[List.map_map] at this
  refine this.trans (List.Perm.of_eq ?_)
  conv=>rhs;rw[← List.map_id ((ts.filter fun y=>decide (y.1=(h:Int))).map (·.2))]
  rfl
 have mem:∀z,z∈ps.map (·.2)↔((h:Int),z)∈ts:=fun z=>by
  rw[hout.mem_iff,List.mem_map]
  constructor
  ·rintro⟨y,hy,rfl⟩
   obtain⟨y1,y2⟩:=List.mem_filter.mp hy
   have:y.1=(h:Int):=by simpa using y2
   rw[← this];exact y1
  ·intro hz
   exact⟨_,List.mem_filter.mpr ⟨hz,by simp⟩,rfl⟩
 have nd:(ps.map (·.2)).Nodup:=hout.nodup_iff.mpr (rA F.nd)
 have key:∀q∈ps,q.1=(q.2-(h:Int)) % (n:Int):=fun q hq=>by
  obtain⟨z,_,e⟩:=List.mem_map.mp (hp.mem_iff.mp hq)
  rw[← e]
 have hn:(0:Int)<n:=by have:=F.n1;lia
 have sorted:(ps.map (·.2)).Pairwise fun x y=>(x-(h:Int)) % (n:Int)<(y-(h:Int)) % (n:Int):=by
  refine List.pairwise_map.mpr ?_
  have nd2:=List.pairwise_map.mp nd
  refine(hs.and nd2).imp_of_mem fun {x y} hx hy hxy=>?_
  have l1:=hxy.1
  rw[key x hx,key y hy] at l1
  have ax:=F.rg _ ((mem x.2).mp (List.mem_map.mpr ⟨x,hx,rfl⟩))
  have ay:=F.rg _ ((mem y.2).mp (List.mem_map.mpr ⟨y,hy,rfl⟩))
  have ne:(x.2-(h:Int)) % (n:Int)≠(y.2-(h:Int)) % (n:Int):=fun z=>hxy.2 (aDe hn ax.2.1 ax.2.2 ay.2.1 ay.2.2 z)
  lia
 have e:ps.map (·.2)=(outN n ts h).map fun (o:Nat)=>(o:Int):=by
  refine mQ (k:=fun z=>(z-(h:Int)) % (n:Int)) sorted ?_ fun z=>?_
  ·refine List.pairwise_map.mpr ?_
   exact mP hh
  ·rw[mem,List.mem_map]
   constructor
   ·intro hz
    have r:=F.rg _ hz
    refine⟨z.toNat,(eX F hh).mpr ?_,by lia⟩
    show (((h:Nat):Int),((z.toNat:Nat):Int))∈ts
    rw[show ((z.toNat:Nat):Int)=z by lia];exact hz
   ·rintro⟨o,ho,rfl⟩
    exact(eX F hh).mp ho
 rw[e,List.map_map]
 rfl
section
variable {P:Program} {w:World} {K:PySem.W.Frag} {mg:Str→Option Value} {base:Heap}
theorem aBi:aW ["many","ties","house","others"] ["many","ties","house"] (aL oG):=⟨rfl,rfl,rfl,by decide +kernel,rfl,by decide +kernel,by decide +kernel⟩
def oI(Pt:Addr):Sp:=fun vs H Q _=>∃ (n:Nat) (l:Addr) (h:Nat) (zs:Zs),vs=[.int n,.ref l,.int h]∧h<n∧eE H l n zs∧Tab Pt H∧
 ∀ (r:Addr) (H':Hp),Tab Pt H'→oH Pt H H'→H r=none→H' r=some (.lst (NV (outN n (zp zs) h)))→Q (.ref r) H'
theorem aDf{f c Pt:Addr}{fd:FuncData}(F:FunC K "houses_out" "houses_out" oG f fd c)(B:Bl mg)(kb:K.In base)(hb:BmOk mg base)(hc:PySem.W.codeHdIn K c Pt=true):
  FnOk P w K mg base CX0 1 f fd ["many","ties","house"] (oI Pt):=by
 refine F.ok aBi (fun vs H Q E h=>?_) (fun A outer s H vs Q E hr h=>?_)
 ·obtain⟨n,l,h,zs,rfl,_⟩:=h
  rfl
 ·obtain⟨n,l,h,zs,rfl,hh,T,tb,k⟩:=h
  have fi:=T.fine
  have n1:=fi.n1
  have hlen:zs.length≤256:=by have:=fi.len;rw[bH] at this;exact this
  have LS:LamS (cxOf CX0 P w K mg base ["many","ties","house","others"] "houses_out" (aL oG) f (.ref c) A outer s H E).nox aCy aDc aDd aEX "other" "house" "many" 2 0:=
   ⟨⟨_,_,_,_,_,rfl⟩,fun _ _ _ _ _=>rfl,rfl,rfl,rfl,rfl,rfl,rfl,rfl,by decide +kernel,by decide +kernel,by decide +kernel,rfl,rfl,rfl,by decide,⟨by decide,by decide⟩,⟨by decide,by decide⟩⟩
  refine'⟨_,aF (dB (i:=3) (g:=gTup K 2 (cY (bB 0) (cY (bB 1) gNil))) (NB:=["one","other","house"]) (src:=[none,none,some 2]) (bP (by kernel_rfl)) rfl (bN (pv 1)) ?g ?t ?e aBi.nd rfl rfl rfl)
   (aI (bA (aAR (yP LS hr) rfl B.sorted PyProof.Rows.boot_sorted (aA (pv 3) aD) (aCL (aD2 (NB:=["other","house","many"]) (src:=[none,some 2,some 0]) (aCW kb hb hc) (bP (by kernel_rfl))) aDX)))),?_⟩
  case g=>exact fun cl C s₃ H₃ fp=>cM (n:=2) rfl (aR (aK (i:=0) nb3 rfl (Or.inl rfl) (Or.inr rfl)) (aR (aK (i:=1) nb3 rfl (Or.inl rfl) (Or.inr rfl)) cF))
  case t=>exact fun cl C s₃ H₃ fp=>dF (aX dX (pv 0) (pv 2) (aZ _))
  case e=>exact fun cl C s₃ H₃ fp=>pv 1
  refine⟨_,rfl,l,rfl,⟨_,SqL.of T.at_⟩,fun D hD=>lF (fun σ=>∃a b,σ=[a,b,some (.int (h:Int))]) (·.1) (·.2) (h:Int) hD T.at_ T.po (by lia) ⟨_,_,rfl⟩ ?_ ?_⟩
  ·rintro z σ H3 Kt Kf hj ⟨x,y,rfl⟩ ha kt kf
   refine⟨z.1,_,rfl,SqT.of ha,rfl,_,_,rfl,_,_,rfl,rfl,?_⟩
   refine⟨_,rfl,_,rfl,rfl,_,rfl,?_⟩
   refine ite2 (fun e=>?_) (fun e=>?_)
   ·exact⟨_,rfl,kt _ ⟨_,_,rfl⟩ (by simpa using e)⟩
   ·exact kf _ ⟨_,_,rfl⟩ (by simpa using e)
  ·generalize hos:((zp zs).filter fun y=>decide (y.1=(h:Int))).map (·.2)=os
   have hol:os.length≤8:=by rw[← hos,List.length_map];exact fi.most h
   have sm:Same H (upd H D (.lst (IV os))):=aE hD
   refine⟨_,rfl,tb.same sm,fun f' c' H2 t2' old hc' hf'=>?_⟩
   have t2:Tab Pt H2:=t2'
   have hD2:H2 D=some (.lst (IV os)):=old _ _ aB ((tb.same sm).not aB (by intro ps z;cases z))
   refine⟨D,f',c',os,h,n,rfl,rfl,SqL.of hD2,(by lia),hf',hc',rfl,rfl,by lia,fun r out hr' ko=>?_⟩
   rw[← hos] at ko
   rw[aBh fi hh ko]
   have sm2:Same H2 (upd H2 r (.lst (NV (outN n (zp zs) h)))):=aE hr'
   refine k r _ (t2.same sm2) (fun b o e hb=>sm2 _ _ (old b o (sm _ _ e) hb)) ?_ aB
   cases z:H r with
   |none=>rfl
   |some o=>
    by_cases hP:r=Pt
    ·rcases t2 with q|⟨_,q,_⟩ <;> · rw[← hP,hr'] at q;cases q
    ·rw[old r o (sm _ _ z) hP] at hr';cases hr'
end
end K12
namespace K12
open PySem L2 NetM
abbrev zG:Stmt:=top 30
abbrev uF:Stmt:=top 31
def rowV(n:Nat)(R:List Nat)(f:Nat→Nat):List V:=(List.range n).map fun x=>if x∈R then V.int ((f x:Nat):Int) else .non
theorem gD{n:Nat}{R:List Nat}{f:Nat→Nat}:(rowV n R f).length=n:=by unfold rowV;rw[List.length_map,List.length_range]
theorem fA{n:Nat}{R:List Nat}{f:Nat→Nat}{x:Nat}(h:x<n):(rowV n R f)[x]?=some (if x∈R then V.int ((f x:Nat):Int) else .non):=by
 unfold rowV
 rw[List.getElem?_map,List.getElem?_range h]
 rfl
theorem oJ{n s:Nat}(hs:s<n):(List.replicate n V.non).set s (V.int 0)=rowV n [s] (fun _=>0):=by
 apply List.ext_getElem?
 intro x
 by_cases hx:x<n
 ·rw[fA hx]
  by_cases e:x=s
  ·subst e
   rw[List.getElem?_set_self (by rw[List.length_replicate];exact hx),if_pos (by simp)]
   rfl
  ·rw[List.getElem?_set_ne (fun z=>e z.symm),List.getElem?_replicate,if_pos hx,if_neg (by simp[e])]
 ·rw[List.getElem?_eq_none (by rw[List.length_set,List.length_replicate];lia),List.getElem?_eq_none (by rw[gD];lia)]
theorem uG{n v k:Nat}{R:List Nat}{f:Nat→Nat}(hv:v<n):(rowV n R f).set v (V.int ((k:Nat):Int))=rowV n (R++[v]) (put f v k):=by
 apply List.ext_getElem?
 intro x
 by_cases hx:x<n
 ·rw[fA hx]
  by_cases e:x=v
  ·subst e
   rw[List.getElem?_set_self (by rw[gD];exact hx),if_pos (by simp),gB]
  ·rw[List.getElem?_set_ne (fun z=>e z.symm),fA hx,dJ e]
   by_cases h:x∈R
   ·rw[if_pos h,if_pos (List.mem_append_left _ h)]
   ·rw[if_neg h,if_neg (fun z=>(List.mem_append.mp z).elim h fun z=>e (by simpa using z))]
 ·rw[List.getElem?_eq_none (by rw[List.length_set,gD];lia),List.getElem?_eq_none (by rw[gD];lia)]
def aEY(σ:St):Nat:=match σ[4]? with
 |some (some (V.int z))=>z.toNat
 |_=>0
theorem nbO:(["others"]:List Str).Nodup:=by decide +kernel
def lG(H:Hp)(ol:Addr)(n:Nat)(ts:Ts):Prop:=∃bs:List Addr,H ol=some (.lst (bs.map V.ref))∧Holds H bs n (fun h=>.lst (NV (outN n ts h)))
theorem lG.same{H H':Hp}{ol:Addr}{n:Nat}{ts:Ts}(x:lG H ol n ts)(e:Same H H'):lG H' ol n ts:=let ⟨bs,a,b⟩:=x;⟨bs,e _ _ a,b.mono fun _ _ z=>e _ _ z⟩
theorem aCz{as:List Addr}{i:Nat}{x:V}(h:(as.map V.ref)[i]?=some x):i<as.length∧x=.ref (as.getD i 0):=by
 rw[List.getElem?_map] at h
 cases e:as[i]? with
 |none=>rw[e] at h;cases h
 |some a=>
  rw[e] at h
  refine⟨(List.getElem?_eq_some_iff.mp e).1,?_⟩
  rw[List.getD_eq_getElem?_getD,e]
  exact(Option.some.inj h).symm
section
variable {P:Program} {w:World} {K:PySem.W.Frag} {mg:Str→Option Value} {base:Heap}
theorem iQ:aW ["out_lists","start","distances","reached","at","house","other"] ["out_lists","start"] (aL zG):=⟨rfl,rfl,rfl,by decide +kernel,rfl,by decide +kernel,by decide +kernel⟩
def oK:Sp:=fun vs H Q _=>∃ (ol:Addr) (n s:Nat) (ts:Ts),vs=[.ref ol,.int s]∧Fine n ts∧s<n∧lG H ol n ts∧
 ∀ (r:Addr) (H':Hp),Same H H'→H r=none→H' r=some (.lst (NV ((List.range n).map (far ts s))))→Q (.ref r) H'
theorem aDg{f:Addr}{fd:FuncData}(F:Fun K "distances_from" "distances_from" zG f fd)(B:Bl mg):FnOk P w K mg base CX0 1 f fd ["out_lists","start"] oK:=by
 refine F.ok iQ (fun vs H Q E h=>?_) (fun cdv A outer s H vs Q E hr h=>?_)
 ·obtain⟨ol,n,s,ts,rfl,_⟩:=h
  rfl
 ·obtain⟨ol,n,st,ts,rfl,fi,hs,O,k⟩:=h
  have n1:=fi.n1
  have n2:=fi.n2
  refine'⟨_,aF (dB (i:=2) (g:=bB 0) (NB:=["others"]) (src:=[none]) (bP (by kernel_rfl)) rfl (bN (pv 0)) ?g ?t ?e iQ.nd rfl rfl rfl)
   (aF (cK aJ (dH (pv 2) (pv 1) cN))
   (aF (aT (i:=3) iQ.nd rfl (Or.inl rfl) (bY (aA (pv 1) aD)))
   (aF (aT (i:=4) iQ.nd rfl (Or.inl rfl) aJ)
   (aF (rT PassesOwn.never (aX gJ (pv 4) (aU bC (by rfl) B.len PySem.boot_len (aA (pv 3) aD)) (aZ _))
    (aF (aT (i:=5) iQ.nd rfl (Or.inl rfl) (aS aP (pv 3) (pv 4) (fun _ _=>rfl)))
    (aF (cH PassesOwn.never rfl (bN (aS aP (pv 0) (pv 5) (fun _ _=>rfl))) (aK (i:=6) iQ.nd rfl (Or.inl rfl))
     (aI (bZ (aX aAo (aS aP (pv 2) (pv 6) (fun _ _=>rfl)) eI (aZ _))
      (aF (cK (aV cD (aS aP (pv 2) (pv 5) (fun _ _=>rfl)) aJ) (dH (pv 2) (pv 6) cN))
      (aI (bV (dA PySem.F.plainAttrs_list PySem.F.slot_list_append PySem.F.type_list_append cE (pv 3) (aA (pv 6) aD))))) bS)))
    (aI (aDU (i:=4) iQ.nd rfl (Or.inl rfl) aJ aDV)))))
   (aI (bA (pv 2))))))),?_⟩
  case g=>exact fun cl C s₃ H₃ fp=>aK (i:=0) nbO rfl (Or.inl rfl) (Or.inr rfl)
  case t=>exact fun cl C s₃ H₃ fp=>cQ
  case e=>exact fun cl C s₃ H₃ fp=>eI
  obtain⟨bs,hol,hbl,hbs⟩:=id O
  refine⟨_,rfl,ol,rfl,⟨_,SqL.of hol⟩,fun D hD=>?_⟩
  have nol:ol≠D:=aG hol hD
  refine dI (xs:=bs.map V.ref) (fun i ys σ H2=>(∃a,σ=[a])∧ys=List.replicate i V.non∧H2=upd H D (.lst ys)) ⟨⟨_,rfl⟩,rfl,rfl⟩ (fun i ys σ H2 _ ⟨_,_,e⟩=>by rw[e];exact SqL.of (by rw[aH nol];exact hol)) ?_ ?_
  ·rintro i x ys σ H2 Kt Kf hx ⟨⟨a,rfl⟩,rfl,rfl⟩ kt kf
   have hi:=(aCz hx).1
   refine kt _ _ _ aB ?_ ⟨⟨_,rfl⟩,?_,by rw[iE]⟩
   ·rw[List.length_replicate]
    exact Nat.lt_of_lt_of_le hi (by rw[hbl];exact Nat.le_trans n2 (by decide))
   ·rw[List.replicate_succ']
  ·rintro ys σ H2 ⟨_,rfl,rfl⟩
   rw[List.length_map,hbl]
   refine⟨_,rfl,_,rfl,D,_,st,st,rfl,rfl,aB,by rw[List.length_replicate];exact cV hs,?_⟩
   rw[iE,oJ hs]
   refine⟨_,rfl,by show 1≤sizeLine;decide,fun R hR=>?_⟩
   have nDR:D≠R:=aG (H:=upd H D (.lst (rowV n [st] (fun _=>0)))) aB hR
   have hR0:H R=none:=by rw[aH nDR.symm] at hR;exact hR
   refine rW (fun σ H2=>∃ (i:Nat) (Rs:List Nat) (f:Nat→Nat),i≤Rs.length∧Bfs n ts st i Rs f∧(∃a b,σ=[some (.ref ol),some (.int st),some (.ref D),some (.ref R),some (.int (i:Int)),a,b])∧Same H H2∧H2 D=some (.lst (rowV n Rs f))∧H2 R=some (.lst (NV Rs)))
    (fun σ _=>n-aEY σ) ⟨0,[st],fun _=>0,Nat.zero_le _,Bfs.start hs,⟨none,none,rfl⟩,bE (aE hD) hR0,?_,aB⟩ ?_ ?_
   ·rw[aH nDR,aB]
   ·rintro σ H2 ⟨i,Rs,f,hi,Bf,⟨a,b,rfl⟩,sm,hD2,hR2⟩
    have hRn:Rs.length≤n:=dR Bf.nd Bf.lt
    refine⟨_,rfl,_,rfl,R,_,rfl,.inl (SqL.of hR2),_,_,rfl,rfl,_,rfl,?_⟩
    rw[bD]
    by_cases hin:i<Rs.length
    ·rw[show decide ((i:Int)<((Rs.length:Nat):Int))=true by simp;lia]
     refine iteT ?_
     have hu:Rs[i]?=some Rs[i]:=List.getElem?_eq_getElem hin
     generalize Rs[i]=u at hu
     have hun:u<n:=Bf.lt u (List.mem_of_getElem? hu)
     have huR:(NV Rs)[i]?=some (.int (u:Int)):=by rw[List.getElem?_map,hu];rfl
     refine⟨_,rfl,_,rfl,R,_,_,_,rfl,rfl,SqL.of hR2,aM huR,?_⟩
     have hb1:(bs.map V.ref)[u]?=some (.ref (bs.getD u 0)):=by
      rw[List.getElem?_map,List.getD_eq_getElem?_getD,List.getElem?_eq_getElem (by rw[hbl];exact hun)];rfl
     have hb2:=sm _ _ (hbs _ hun)
     refine⟨_,rfl,_,rfl,ol,_,_,_,rfl,rfl,SqL.of (sm _ _ hol),aM hb1,_,rfl,⟨_,SqL.of hb2⟩,?_⟩
     have nbD:bs.getD u 0≠D:=aG (hbs _ hun) hD
     have nbR:bs.getD u 0≠R:=aG (hbs _ hun) hR0
     refine dN (K:=K) (xs:=NV (outN n ts u)) (fun j σ H3=>∃ (Rs':List Nat) (f':Nat→Nat),Bfs n ts st i Rs' f'∧Rs'[i]?=some u∧(∀v∈(outN n ts u).take j,v∈Rs'∧f' v≤f' u+1)∧
      (∃b,σ=[some (.ref ol),some (.int st),some (.ref D),some (.ref R),some (.int (i:Int)),some (.int (u:Int)),b])∧Same H H3∧H3 D=some (.lst (rowV n Rs' f'))∧H3 R=some (.lst (NV Rs')))
      ⟨Rs,f,Bf,hu,fun v hv=>by simp at hv,⟨_,rfl⟩,sm,hD2,hR2⟩ (fun j σ H3 _ ⟨_,_,_,_,_,_,sm3,_⟩=>SqL.of (sm3 _ _ (hbs _ hun))) ?_ ?_
     ·rintro j x σ H3 hx ⟨Rs',f',Bf',hu',dn,⟨b',rfl⟩,sm3,hD3,hR3⟩
      rw[List.getElem?_map] at hx
      cases hv:(outN n ts u)[j]? with
      |none=>rw[hv] at hx;cases hx
      |some v=>
       rw[hv] at hx
       obtain rfl:V.int ((v:Nat):Int)=x:=Option.some.inj hx
       have hvm:v∈outN n ts u:=List.mem_of_getElem? hv
       have hvn:v<n:=lX fi hun hvm
       have tuv:T ts u v:=(eX fi hun).mp hvm
       have tk:(outN n ts u).take (j+1)=(outN n ts u).take j++[v]:=by rw[List.take_add_one,hv];rfl
       have hun':u∈Rs':=List.mem_of_getElem? hu'
       refine⟨_,rfl,_,rfl,D,_,_,_,rfl,rfl,SqL.of hD3,aM (fA hvn),rfl,_,rfl,?_⟩
       by_cases hvR:v∈Rs'
       ·rw[if_pos hvR]
        refine iteF ⟨Rs',f',Bf',hu',fun x hx=>?_,⟨_,rfl⟩,sm3,hD3,hR3⟩
        rw[tk] at hx
        rcases List.mem_append.mp hx with z|z
        ·exact dn x z
        ·simp at z;subst z;exact⟨hvR,Bf'.bd u hu' _ hvR⟩
       ·rw[if_neg hvR]
        refine iteT ?_
        have hg2:(rowV n Rs' f')[u]?=some (.int ((f' u:Nat):Int)):=by rw[fA hun,if_pos hun']
        refine⟨_,rfl,_,rfl,D,_,_,_,rfl,rfl,SqL.of hD3,aM hg2,_,_,rfl,rfl,_,rfl,_,rfl,D,_,_,_,rfl,rfl,hD3,by rw[gD];exact cV hvn,?_⟩
        have e1:(rowV n Rs' f').set v (.int (((f' u:Nat):Int)+1))=rowV n (Rs'++[v]) (put f' v (f' u+1)):=by
         rw[show ((f' u:Nat):Int)+1=((f' u+1:Nat):Int) by lia,uG hvn]
        rw[e1]
        have hR4:(upd H3 D (.lst (rowV n (Rs'++[v]) (put f' v (f' u+1))))) R=some (.lst (NV Rs')):=by rw[aH nDR.symm];exact hR3
        have hlen':Rs'.length≤n:=dR Bf'.nd Bf'.lt
        refine⟨_,rfl,.inl ⟨rfl,_,SqL.of hR4⟩,_,rfl,R,_,_,rfl,rfl,hR4,by rw[bD];exact Nat.lt_of_lt_of_le (show Rs'.length<33 by lia) (by decide),?_⟩
        have hi':i<Rs'.length:=(List.getElem?_eq_some_iff.mp hu').1
        have nuv:u≠v:=fun z=>hvR (z ▸ hun')
        refine⟨Rs'++[v],put f' v (f' u+1),Bf'.add hu' hvn tuv hvR,by rw[List.getElem?_append_left hi'];exact hu',fun x hx=>?_,⟨_,rfl⟩,bE (bE sm3 hD) hR0,?_,?_⟩
        ·rw[dJ nuv]
         rw[tk] at hx
         rcases List.mem_append.mp hx with z|z
         ·obtain⟨q1,q2⟩:=dn x z
          exact⟨List.mem_append_left _ q1,by rw[dJ (fun (z:x=v)=>hvR (z ▸ q1))];exact q2⟩
         ·simp at z;subst z
          exact⟨by simp,by rw[gB];exact Nat.le_refl _⟩
        ·rw[aH nDR,aB]
        ·rw[aB];show _=some (HO.lst (NV (Rs'++[v])));rw[show NV (Rs'++[v])=NV Rs'++[.int (v:Int)] by unfold NV;rw[List.map_append];rfl]
     ·rintro σ H3 ⟨Rs',f',Bf',hu',dn,⟨b',rfl⟩,sm3,hD3,hR3⟩
      rw[bD,List.take_length] at dn
      have hi':i<Rs'.length:=(List.getElem?_eq_some_iff.mp hu').1
      have hlen':Rs'.length≤n:=dR Bf'.nd Bf'.lt
      refine⟨_,rfl,_,_,rfl,rfl,⟨⟨i+1,Rs',f',hi',Bf'.next hu' (fun v t=>dn v ((eX fi hun).mpr t)),⟨_,_,rfl⟩,sm3,hD3,hR3⟩,?_⟩⟩
      show n-((i:Int)+1).toNat<n-(i:Int).toNat
      lia
    ·rw[show decide ((i:Int)<((Rs.length:Nat):Int))=false by rw[decide_eq_false_iff_not];lia]
     have e:rowV n Rs f=NV ((List.range n).map (far ts st)):=by
      unfold rowV NV
      rw[List.map_map]
      refine List.map_congr_left fun x hx=>?_
      obtain⟨q1,q2⟩:=Bf.done fi (by lia) (List.mem_range.mp hx)
      rw[if_pos q1,q2];rfl
     rw[e] at hD2
     refine iteF ⟨_,rfl,k D H2 sm hD hD2⟩
   ·rintro σ H2 Q1 Q2 imp ⟨v,e1,v2,e2,p,ys,e3,e4,i1,i2,e5,e6,kk,e7,q⟩
    exact⟨v,e1,v2,e2,p,ys,e3,e4,i1,i2,e5,e6,kk,e7,imp _ _ q⟩
end
end K12
namespace K12
open PySem L2 NetM
theorem aEZ:(["row"]:List Str).Nodup:=by decide +kernel
section
variable {P:Program} {w:World} {K:PySem.W.Frag} {mg:Str→Option Value} {base:Heap}
theorem aDh:aW ["distances"] ["distances"] (aL uF):=⟨rfl,rfl,rfl,by decide +kernel,rfl,by decide +kernel,by decide +kernel⟩
def pN:Sp:=fun vs H Q _=>∃ (l:Addr) (ds:List Addr) (n:Nat) (o:Nat→List V),vs=[.ref l]∧H l=some (.lst (ds.map V.ref))∧n≤32∧Holds H ds n (fun j=>.lst (o j))∧(∀j,j<n→∀x∈o j,∃i,x=.int i)∧∀H',Same H H'→Q .non H'
theorem aB3{f:Addr}{fd:FuncData}(F:Fun K "check_reached" "check_reached" uF f fd)(B:Bl mg):FnOk P w K mg base CX0 1 f fd ["distances"] pN:=by
 refine F.ok aDh (fun vs H Q E h=>?_) (fun cdv A outer s H vs Q E hr h=>?_)
 ·obtain⟨l,ds,n,o,rfl,_⟩:=h
  rfl
 ·obtain⟨l,ds,n,o,rfl,hl,n2,hh,hx,k⟩:=h
  refine'⟨_,aI (bZ (fJ (aU (qN rfl) (by rfl) B.any PyProof.Rows.boot_any (aA ?c aD))) dW bS),?_⟩
  case c=>
   refine' cG (g:=bB 0) (te:=tOp (rIn K false) (tC .non) (tVar 0)) (NB:=["row"]) (src:=[none]) (bP (by kernel_rfl)) rfl (bN (pv 0)) ?g ?t ?e
   case g=>exact fun cl C s₃ H₃ fp=>aK (i:=0) aEZ rfl (Or.inl rfl) (Or.inr rfl)
   case t=>exact fun cl C s₃ H₃ fp=>cQ
   case e=>exact fun cl C s₃ H₃ fp=>jI aAv eI (pv 0) rfl
  refine⟨_,rfl,l,rfl,⟨_,SqL.of hl⟩,fun D hD=>?_⟩
  have nl:l≠D:=aG hl hD
  refine dI (xs:=ds.map V.ref) (fun i ys σ H2=>(∃a,σ=[a])∧ys=(List.replicate i false).map V.bl∧H2=upd H D (.lst ys)) ⟨⟨_,rfl⟩,rfl,rfl⟩ (fun i ys σ H2 _ ⟨_,_,e⟩=>by rw[e];exact SqL.of (by rw[aH nl];exact hl)) ?_ ?_
  ·rintro i x ys σ H2 Kt Kf hxi ⟨⟨a,rfl⟩,rfl,rfl⟩ kt kf
   obtain⟨hi,rfl⟩:=aCz hxi
   rw[hh.1] at hi
   have hd:=hh.2 i hi
   have nd:ds.getD i 0≠D:=aG hd hD
   have q1:(o i).all cZ=true:=List.all_eq_true.mpr fun x hx'=>by obtain⟨z,rfl⟩:=hx i hi x hx';rfl
   have q2:inV .non (o i)=false:=by
    unfold inV
    rw[List.any_eq_false]
    intro x hx'
    obtain⟨z,rfl⟩:=hx i hi x hx'
    exact fun z=>by cases z
   refine⟨_,rfl,_,_,rfl,.inl (SqL.of (by rw[aH nd];exact hd)),rfl,q1,?_⟩
   refine kt _ _ _ aB ?_ ⟨⟨_,rfl⟩,?_,by rw[iE]⟩
   ·rw[List.length_map,List.length_replicate]
    exact Nat.lt_of_lt_of_le hi (Nat.le_trans n2 (by decide))
   ·rw[List.replicate_succ',List.map_append,q2];rfl
  ·rintro ys σ H2 ⟨_,rfl,rfl⟩
   refine⟨D,_,rfl,SqL.of aB,_,rfl,?_⟩
   have e:(List.replicate (ds.map V.ref).length false).any id=false:=by
    rw[List.any_eq_false];intro x hx';rw[(List.mem_replicate.mp hx').2];decide
   rw[e]
   exact iteF (k _ (aE hD))
end
end K12
namespace K12
open PySem L2 NetM
theorem nb2:(["one","other"]:List Str).Nodup:=by decide +kernel
theorem aE0:(["house","many","ties"]:List Str).Nodup:=by decide +kernel
theorem nbHS:(["house","self"]:List Str).Nodup:=by decide +kernel
def hZ(p Pt:Addr)(H H':Hp):Prop:=∀b o,H b=some o→b≠p→b≠Pt→H' b=some o
theorem eE.mono{p Pt:Addr}{H H':Hp}{l:Addr}{n:Nat}{zs:Zs}{C dx:Addr}{fs:List (Str×V)}(h:eE H l n zs)(e:hZ p Pt H H')(hp:H p=some (.ins C dx fs))(tb:Tab Pt H):eE H' l n zs:=
 ⟨h.fine,e _ _ h.at_ (dE h.at_ hp (by intro z;cases z)) (tb.not h.at_ (by intro ps z;cases z)),fun z hz=>e _ _ (h.po z hz) (dE (h.po z hz) hp (by intro z;cases z)) (tb.not (h.po z hz) (by intro ps z;cases z))⟩
theorem Tab.mono{p Pt C dx:Addr}{fs:List (Str×V)}{H H':Hp}(t:Tab Pt H)(e:∀b o,H b=some o→b≠p→H' b=some o)(hp:H p=some (.ins C dx fs)):Tab Pt H':=by
 rcases t with z|⟨c,z,y⟩
 ·exact .inl (e _ _ z (dE z hp (by intro q;cases q)))
 ·exact .inr ⟨c,e _ _ z (dE z hp (by intro q;cases q)),e _ _ y (dE y hp (by intro q;cases q))⟩
theorem Tab.full{Pt:Addr}{H:Hp}(t:Tab Pt H):H Pt≠none:=by
 rcases t with z|⟨c,z,y⟩ <;> rw[z] <;> intro q <;> cases q
theorem hZ.free{p Pt r:Addr}{H H':Hp}(s:hZ p Pt H H')(hp:H' p≠none)(tb:Tab Pt H')(h:H' r=none):H r=none:=by
 cases z:H r with
 |none=>rfl
 |some o=>
  by_cases e1:r=p
  ·subst e1;exact absurd h hp
  ·by_cases e2:r=Pt
   ·subst e2;exact absurd h tb.full
   ·rw[s r o z e1 e2] at h;cases h
theorem aE1{σ:St}{H:Hp}{k:List V→Hp→Prop}(h:k [] H):tNil σ H k:=h
theorem iJ{H:Hp}{p:Addr}{o:HO}(h:H p=some o):H p≠none:=by rw[h];intro z;cases z
section
variable {P:Program} {w:World} {K:PySem.W.Frag} {mg:Str→Option Value} {base:Heap}
theorem aEe:aW ["self","many","ties"] ["self","many","ties"] (aL rH):=⟨rfl,rfl,rfl,by decide +kernel,rfl,by decide +kernel,by decide +kernel⟩
def uH(C Pt:Addr):Sp:=fun vs H Q E=>∃ (p dx:Addr) (n:Nat) (l:Addr) (zs:Zs),vs=[.ref p,.int n,.ref l]∧H p=some (.ins C dx [])∧eE H l n zs∧Tab Pt H∧
  ∀H',cA C H' (fun a=>H a=none) p n (zp zs)→Tab Pt H'→hZ p Pt H H'→Q .non H'
theorem aDi{f C Pt:Addr}{fd:FuncData}(F:Fun K "__init__" "Net.__init__" rH f fd)(T:NT K mg C)(B:Bl mg)(CT:Cal P w K mg base CX0 6 "check_ties" ["many","ties"] iI)(CB:Cal P w K mg base CX0 1 "check_balance" ["many","ties"] iI)(HO':Cal P w K mg base CX0 1 "houses_out" ["many","ties","house"] (oI Pt))(DF:Cal P w K mg base CX0 1 "distances_from" ["out_lists","start"] oK)(CR:Cal P w K mg base CX0 1 "check_reached" ["distances"] pN):
  FnOk P w K mg base CX0 7 f fd ["self","many","ties"] (uH C Pt):=by
 refine F.ok aEe (fun vs H Q E h=>?_) (fun cdv A outer s H vs Q E hr h=>?_)
 ·obtain⟨p,dx,n,l,zs,rfl,_⟩:=h
  rfl
 ·have hr1:Room 1 _:=hr.mono (by decide)
  refine'⟨_,aF (bV (aN CT hr aQ (aA (pv 1) (aA (pv 2) aD))))
   (aF (bV (aN CB hr1 aQ (aA (pv 1) (aA (pv 2) aD))))
   (aF (nN (pv 0) (pv 1) rfl)
   (aF (nN (pv 0) (aU yU (by rfl) B.sorted PyProof.Rows.boot_sorted (aA ?c1 aD)) rfl)
   (aF (nN (pv 0) ?c2 rfl)
   (aF (nN (pv 0) ?c3 rfl)
   (aI (bV (aN CR hr1 aQ (aA (iL (pv 0) rfl) aD))))))))),?_⟩
  case c1=>
   refine' cG (g:=gTup K 2 (cY (bB 0) (cY (bB 1) gNil))) (te:=tTup (bJ (tVar 0) (bJ (tVar 1) tNil))) (NB:=["one","other"]) (src:=[none,none]) (bP (by kernel_rfl)) rfl (bN (pv 2)) ?g ?t ?e
   case g=>exact fun cl C s₃ H₃ fp=>cM (n:=2) rfl (aR (aK (i:=0) nb2 rfl (Or.inl rfl) (Or.inr rfl)) (aR (aK (i:=1) nb2 rfl (Or.inl rfl) (Or.inr rfl)) cF))
   case t=>exact fun cl C s₃ H₃ fp=>cQ
   case e=>exact fun cl C s₃ H₃ fp=>bW (aA (pv 0) (aA (pv 1) aD))
  case c2=>
   refine' cG (g:=bB 0) (te:=lQ (oI Pt) [] E0 (bJ (tVar 1) (bJ (tVar 2) (bJ (tVar 0) tNil)))) (NB:=["house","many","ties"]) (src:=[none,some 1,some 2]) (bP (by kernel_rfl)) rfl (bT rfl B.range (aA (pv 1) aD)) ?g ?t ?e
   case g=>exact fun cl C s₃ H₃ fp=>aK (i:=0) aE0 rfl (Or.inl rfl) (Or.inr rfl)
   case t=>exact fun cl C s₃ H₃ fp=>cQ
   case e=>exact fun cl C s₃ H₃ fp=>aN HO' hr1 aQ (aA (pv 1) (aA (pv 2) (aA (pv 0) aD)))
  case c3=>
   refine' cG (g:=bB 0) (te:=lQ oK [] E0 (bJ (tFld K (tVar 1) "out_lists") (bJ (tVar 0) tNil))) (NB:=["house","self"]) (src:=[none,some 0]) (bP (by kernel_rfl)) rfl (bT rfl B.range (aA (pv 1) aD)) ?g ?t ?e
   case g=>exact fun cl C s₃ H₃ fp=>aK (i:=0) nbHS rfl (Or.inl rfl) (Or.inr rfl)
   case t=>exact fun cl C s₃ H₃ fp=>cQ
   case e=>exact fun cl C s₃ H₃ fp=>aN DF hr1 aQ (aA (iL (pv 1) rfl) (aA (pv 0) aD))
  obtain⟨p,dx,n,l,zs,rfl,hp,TT,tb,k⟩:=h
  have fi:=TT.fine
  have n1:=fi.n1
  have n2:=fi.n2
  have hlen:zs.length≤256:=by have:=fi.len;rw[bH] at this;exact this
  refine⟨_,rfl,_,rfl,n,l,zs,rfl,TT,fun H1 s1=>?_⟩
  refine⟨_,rfl,_,rfl,n,l,zs,rfl,TT.same s1,fun H2 s2=>?_⟩
  have s12:Same H H2:=s1.trans s2
  refine⟨_,rfl,_,rfl,p,C,dx,[],rfl,s12 _ _ hp,T.cl,T.nH,(by show 0<1000;decide),?_⟩
  let G1:Hp:=upd H2 p (.ins C dx (putF "house_count" (.int n) []))
  have d1:hZ p Pt H G1:=fun b o e h1 _=>by show upd _ _ _ _=_;rw[aH h1];exact s12 _ _ e
  have g1p:G1 p=some (.ins C dx (putF "house_count" (.int n) [])):=aB
  have TT1:eE G1 l n zs:=TT.mono d1 hp tb
  have tb1:Tab Pt G1:=tb.mono (fun b o e h1=>by show upd _ _ _ _=_;rw[aH h1];exact s12 _ _ e) hp
  refine⟨_,rfl,l,rfl,⟨_,SqL.of TT1.at_⟩,fun D hD=>?_⟩
  refine nF (fun y=>y) (fun σ=>∃a b,σ=[a,b]) TT1.at_ TT1.po hD (by lia) ⟨_,_,rfl⟩ ?_ ?_
  ·rintro z σ H3 R Kf hz ⟨a,b,rfl⟩ _ ha kk
   refine⟨_,_,rfl,SqT.of ha,rfl,_,_,rfl,_,_,rfl,rfl,?_⟩
   exact⟨_,rfl,_,rfl,by show 2≤sizeLine;decide,fun t ht=>kk _ _ ⟨_,_,rfl⟩ ht⟩
  ·intro zs2 H3 sm hD3 po3 ez fr2
   rw[List.map_id'] at ez
   have hl2:zs2.length=zs.length:=by rw[← bH,ez,bH]
   refine aE1 ?_
   refine aC7 hD3 po3 (by lia) (fun u hu=>by have:=(fi.rg u (ez ▸ hu)).2;lia) fun tl zs3 htl pm ord=>?_
   have htlN:H tl=none:=d1.free (iJ g1p) tb1 (sm.free htl)
   have fr3:∀z∈zs3,H z.1=none:=fun z hz=>d1.free (iJ g1p) tb1 (fr2 z (pm.mem_iff.mp hz))
   have e3p:H3 p=some (.ins C dx (putF "house_count" (.int n) [])):=sm _ _ g1p
   have nptl:p≠tl:=aG e3p htl
   refine⟨_,rfl,p,C,dx,_,rfl,by rw[aH nptl];exact e3p,T.cl,T.nT,by show 1<1000;decide,?_⟩
   let G2:Hp:=upd (upd H3 tl (.lst (zr zs3))) p (.ins C dx (putF "tie_list" (.ref tl) (putF "house_count" (.int n) [])))
   have q2:∀b o,H3 b=some o→b≠p→G2 b=some o:=fun b o e h1=>by
    show upd _ _ _ _=_
    rw[aH h1,aH (aG e htl)];exact e
   have d2:hZ p Pt H G2:=fun b o e h1 h2=>q2 _ _ (sm _ _ (d1 _ _ e h1 h2)) h1
   have g2t:G2 tl=some (.lst (zr zs3)):=by show upd _ _ _ _=_;rw[aH nptl.symm,aB]
   have g2o:PO G2 zs3:=fun z hz=>q2 _ _ (po3 z (pm.mem_iff.mp hz)) (dE (po3 z (pm.mem_iff.mp hz)) e3p (by intro z;cases z))
   have g2p:G2 p=some (.ins C dx (putF "tie_list" (.ref tl) (putF "house_count" (.int n) []))):=aB
   have TT2:eE G2 l n zs:=TT.mono d2 hp tb
   have tb2:Tab Pt G2:=tb1.mono (fun b o e h1=>q2 _ _ (sm _ _ e) h1) g1p
   refine⟨_,rfl,n,rfl,by lia,by lia,fun D2 hD2=>?_⟩
   refine dZ (n:=n) (lo:=0) (fun i ys σ H4=>(∃a,σ=[a,some (.int n),some (.ref l)])∧∃bs:List Addr,ys=bs.map V.ref∧(∀b∈bs,H b=none)∧Holds H4 bs i (fun h=>.lst (NV (outN n (zp zs) h)))∧oH Pt G2 H4∧Tab Pt H4∧H4 D2=some (.lst ys)∧∀b∈bs,b≠D2)
    ⟨⟨_,rfl⟩,[],rfl,(fun _ h=>nomatch h),Holds.nil,oH.of (aE hD2),tb2.same (aE hD2),aB,(fun _ h=>nomatch h)⟩ ?_ ?_
   ·rintro i ys σ H4 Kt Kf hi ⟨⟨a,rfl⟩,bs,rfl,hbN,hb,sm4,tb4,hD4,hbD⟩ kt kf
    have TT4:eE H4 l n zs:=TT2.mono (p:=p) (fun b o e _ h2=>sm4 _ _ e h2) g2p tb2
    have e4p:=sm4 _ _ g2p (tb2.not g2p (by intro ps z;cases z))
    refine⟨_,rfl,_,rfl,_,rfl,n,l,i,zs,by rw[Int.zero_add];rfl,hi,TT4,tb4,fun r H5 t5 st5 hr4 hr5=>?_⟩
    have hrN:H r=none:=hZ.free (fun b o e h1 h2=>sm4 _ _ (d2 _ _ e h1 h2) h2) (iJ e4p) tb4 hr4
    have e5D:H5 D2=some (.lst (bs.map V.ref)):=st5 _ _ hD4 (tb4.not hD4 (by intro ps z;cases z))
    have nrD:r≠D2:=by rintro rfl;rw[hD4] at hr4;cases hr4
    have keepD:∀b o ys',H5 b=some o→b≠D2→(upd H5 D2 ys') b=some o:=fun b o ys' e h=>by rw[aH h];exact e
    refine kt _ _ _ e5D (by rw[List.length_map,hb.1];exact Nat.lt_of_lt_of_le hi (Nat.le_trans n2 (by decide))) ⟨⟨_,rfl⟩,bs++[r],by rw[List.map_append];rfl,?_,?_,?_,?_,aB,?_⟩
    ·intro b hb'
     rcases List.mem_append.mp hb' with z|z
     ·exact hbN b z
     ·rw[List.mem_singleton.mp z];exact hrN
    ·refine Holds.snoc (hb.mono fun j hj e=>?_) (keepD _ _ _ hr5 nrD)
     refine keepD _ _ _ (st5 _ _ e (tb4.not e (by intro ps z;cases z))) (hbD _ ?_)
     rw[List.getD_eq_getElem?_getD,List.getElem?_eq_getElem (by rw[hb.1];exact hj)];exact List.getElem_mem _
    ·intro b o e h
     exact keepD _ _ _ (st5 _ _ (sm4 _ _ e h) h) (aG e hD2)
    ·rcases t5 with z|⟨c,z,y⟩
     ·exact .inl (keepD _ _ _ z (dE z e5D (by intro q;cases q)))
     ·exact .inr ⟨c,keepD _ _ _ z (dE z e5D (by intro q;cases q)),keepD _ _ _ y (dE y e5D (by intro q;cases q))⟩
    ·intro b hb'
     rcases List.mem_append.mp hb' with z|z
     ·exact hbD b z
     ·rw[List.mem_singleton.mp z];exact nrD
   ·rintro ys σ H4 ⟨_,bs,rfl,hbN,hb,sm4,tb4,hD4,hbD⟩
    have e4p:H4 p=some (.ins C dx (putF "tie_list" (.ref tl) (putF "house_count" (.int n) []))):=sm4 _ _ g2p (tb2.not g2p (by intro ps z;cases z))
    have hD2N:H D2=none:=d2.free (iJ g2p) tb2 hD2
    refine⟨_,rfl,p,C,dx,_,rfl,e4p,T.cl,T.nO,by have h1:=dO "tie_list" (V.ref tl) (putF "house_count" (V.int n) []);have h2:=dO "house_count" (V.int n) [];simp at h2;lia,?_⟩
    let G3:Hp:=upd H4 p (.ins C dx (putF "out_lists" (.ref D2) (putF "tie_list" (.ref tl) (putF "house_count" (.int n) []))))
    have q3:∀b o,H4 b=some o→b≠p→G3 b=some o:=fun b o e h1=>by show upd _ _ _ _=_;rw[aH h1];exact e
    have g3p:G3 p=some (.ins C dx (putF "out_lists" (.ref D2) (putF "tie_list" (.ref tl) (putF "house_count" (.int n) [])))):=aB
    have d3:hZ p Pt H G3:=fun b o e h1 h2=>q3 _ _ (sm4 _ _ (d2 _ _ e h1 h2) h2) h1
    have tb3:Tab Pt G3:=tb4.mono q3 e4p
    have hb3:Holds G3 bs n (fun h=>.lst (NV (outN n (zp zs) h))):=hb.mono fun j hj e=>q3 _ _ e (dE e e4p (by intro z;cases z))
    have g3D:G3 D2=some (.lst (bs.map V.ref)):=q3 _ _ hD4 (dE hD4 e4p (by intro z;cases z))
    have O3:lG G3 D2 n (zp zs):=⟨bs,g3D,hb3⟩
    refine⟨_,rfl,n,rfl,by lia,by lia,fun D3 hD3'=>?_⟩
    refine dZ (n:=n) (lo:=0) (fun i ys σ H6=>(∃a,σ=[a,some (.ref p)])∧∃ds:List Addr,ys=ds.map V.ref∧(∀b∈ds,H b=none)∧Holds H6 ds i (fun s=>.lst (NV ((List.range n).map (far (zp zs) s))))∧Same G3 H6∧H6 D3=some (.lst ys)∧∀b∈ds,b≠D3)
     ⟨⟨_,rfl⟩,[],rfl,(fun _ h=>nomatch h),Holds.nil,aE hD3',aB,(fun _ h=>nomatch h)⟩ ?_ ?_
    ·rintro i ys σ H6 Kt Kf hi ⟨⟨a,rfl⟩,ds,rfl,hdN,hd,sm6,hD6,hdD⟩ kt kf
     refine⟨_,rfl,p,C,dx,_,_,rfl,sm6 _ _ g3p,T.cl,T.nO,by rw[bQ,if_pos rfl],_,rfl,D2,n,i,zp zs,by rw[Int.zero_add];rfl,fi,hi,O3.same sm6,fun r H7 st7 hr6 hr7=>?_⟩
     have e7D:H7 D3=some (.lst (ds.map V.ref)):=st7 _ _ hD6
     have nrD:r≠D3:=by rintro rfl;rw[hD6] at hr6;cases hr6
     have hrN:H r=none:=hZ.free (fun b o e h1 h2=>sm6 _ _ (d3 _ _ e h1 h2)) (iJ (sm6 _ _ g3p)) (tb3.same sm6) hr6
     have keepD:∀b o ys',H7 b=some o→b≠D3→(upd H7 D3 ys') b=some o:=fun b o ys' e h=>by rw[aH h];exact e
     refine kt _ _ _ e7D (by rw[List.length_map,hd.1];exact Nat.lt_of_lt_of_le hi (Nat.le_trans n2 (by decide))) ⟨⟨_,rfl⟩,ds++[r],by rw[List.map_append];rfl,?_,?_,?_,aB,?_⟩
     ·intro b hb'
      rcases List.mem_append.mp hb' with z|z
      ·exact hdN b z
      ·rw[List.mem_singleton.mp z];exact hrN
     ·refine Holds.snoc (hd.mono fun j hj e=>?_) (keepD _ _ _ hr7 nrD)
      refine keepD _ _ _ (st7 _ _ e) (hdD _ ?_)
      rw[List.getD_eq_getElem?_getD,List.getElem?_eq_getElem (by rw[hd.1];exact hj)];exact List.getElem_mem _
     ·intro b o e
      exact keepD _ _ _ (st7 _ _ (sm6 _ _ e)) (aG e hD3')
     ·intro b hb'
      rcases List.mem_append.mp hb' with z|z
      ·exact hdD b z
      ·rw[List.mem_singleton.mp z];exact nrD
    ·rintro ys σ H6 ⟨_,ds,rfl,hdN,hd,sm6,hD6,hdD⟩
     have e6p:=sm6 _ _ g3p
     refine⟨_,rfl,p,C,dx,_,rfl,e6p,T.cl,T.nD,by have h1:=dO "tie_list" (V.ref tl) (putF "house_count" (V.int n) []);have h2:=dO "house_count" (V.int n) [];have h3:=dO "out_lists" (V.ref D2) (putF "tie_list" (V.ref tl) (putF "house_count" (V.int n) []));simp at h2;lia,?_⟩
     have q4:∀b o u,H6 b=some o→b≠p→(upd H6 p u) b=some o:=fun b o u e h1=>by rw[aH h1];exact e
     refine⟨_,rfl,p,C,dx,_,_,rfl,aB,T.cl,T.nD,by rw[bQ,if_pos rfl],D3,ds,n,fun s=>NV ((List.range n).map (far (zp zs) s)),rfl,q4 _ _ _ hD6 (dE hD6 e6p (by intro z;cases z)),n2,hd.mono fun j hj e=>q4 _ _ _ e (dE e e6p (by intro z;cases z)),fun j hj x hx=>?_,fun H8 s8=>?_⟩
     ·obtain⟨y,hy,rfl⟩:=List.mem_map.mp hx
      exact⟨_,rfl⟩
     ·have up:∀b o,G3 b=some o→b≠p→H8 b=some o:=fun b o e h1=>s8 _ _ (q4 _ _ _ (sm6 _ _ e) h1)
      have hD3N:H D3=none:=d3.free (iJ g3p) tb3 hD3'
      have upT:∀b o,G2 b=some o→b≠p→b≠Pt→H8 b=some o:=fun b o e h1 h2=>up _ _ (q3 _ _ (sm4 _ _ e h2) h1) h1
      refine k H8 ⟨fi,dx,tl,D2,D3,s8 _ _ aB,hD2N,hD3N,⟨bs,up _ _ g3D (dE g3D g3p (by intro z;cases z)),hbN,hb3.mono fun j hj e=>up _ _ e (dE e g3p (by intro z;cases z))⟩,
       ⟨ds,s8 _ _ (q4 _ _ _ hD6 (dE hD6 e6p (by intro z;cases z))),hdN,hd.mono fun j hj e=>s8 _ _ (q4 _ _ _ e (dE e e6p (by intro z;cases z)))⟩,
       ⟨htlN,zs3,upT _ _ g2t nptl.symm (tb2.not g2t (by intro ps z;cases z)),fun z hz=>upT _ _ (g2o z hz) (dE (g2o z hz) g2p (by intro z;cases z)) (tb2.not (g2o z hz) (by intro ps z;cases z)),fr3,((show (zp zs3).Perm (zp zs2) from pm.map _).trans (List.Perm.of_eq ez)),ord⟩⟩ ?_ fun b o e h1 h2=>up _ _ (d3 _ _ e h1 h2) h1
      exact tb3.mono up g3p
end
end K12
namespace K12
open PySem L2 NetM
theorem eO{xs:List Nat}{x:Nat}:NV xs++[.int (x:Int)]=NV (xs++[x]):=by unfold NV;rw[List.map_append];rfl
theorem kD{xs:List Nat}{i:Nat}{x:V}(h:(NV xs)[i]?=some x):∃y,xs[i]?=some y∧x=.int (y:Int):=by
 unfold NV at h
 rw[List.getElem?_map] at h
 cases e:xs[i]? with
 |none=>rw[e] at h;cases h
 |some z=>rw[e] at h;exact⟨z,rfl,(Option.some.inj h).symm⟩
end K12
namespace L2
open PySem PySem.Spec PyProof.Rows
section
variable {X:Cx}
def EqD(X:Cx)(H:Hp)(d:Nat)(x y:V):Prop:=∀ (pins:List (Addr×Obj)) (s:Shared) (σ:St) (A:Around) (u v:Value),Inv X pins σ H s→A.units+d<cLine→RelV x u→RelV y v→SeqAt.EqAt A s u v true
theorem aDj{H:Hp}{i:Int}:EqD X H 0 (.int i) (.int i):=by
 intro pins s σ A u v I hu rx ry
 have h:=nP (A:=A) (s:=s) rx ry rfl rfl
 rw[show eqV (.int i) (.int i)=true by show decide (i=i)=true;simp] at h
 exact h
theorem aBj{pins:List (Addr×Obj)}{s:Shared}{σ:St}{H:Hp}{A:Around}{d:Nat}{xs ys:List V}{us vs:List Value}(I:Inv X pins σ H s)(hu:A.units+d<cLine)(rx:Vals xs us)(ry:Vals ys vs)(he:∀i,i<xs.length→i<ys.length→EqD X H d (xs.getD i .non) (ys.getD i .non)):∀j (h1:j<us.toArray.size) (h2:j<vs.toArray.size),SeqAt.EqAt A s us.toArray[j] vs.toArray[j] true:=by
 intro j h1 h2
 have j1:j<xs.length:=by rw[rx.length];simpa using h1
 have j2:j<ys.length:=by rw[ry.length];simpa using h2
 have e1:xs[j]?=some (xs.getD j .non):=by rw[List.getD_eq_getElem?_getD,List.getElem?_eq_getElem j1];rfl
 have e2:ys[j]?=some (ys.getD j .non):=by rw[List.getD_eq_getElem?_getD,List.getElem?_eq_getElem j2];rfl
 obtain⟨u,hu1,ru⟩:=rx.get e1
 obtain⟨v,hv1,rv⟩:=ry.get e2
 have eu:us.toArray[j]=u:=by
  have:us[j]?=some us.toArray[j]:=by simp at h1 ⊢
  rw[hu1] at this;exact(Option.some.inj this).symm
 have ev:vs.toArray[j]=v:=by
  have:vs[j]?=some vs.toArray[j]:=by simp at h2 ⊢
  rw[hv1] at this;exact(Option.some.inj this).symm
 rw[eu,ev]
 exact he j j1 j2 pins s σ A u v I hu ru rv
theorem aB4{n:Nat}:(List.range n).all (fun _=>true)=true:=List.all_eq_true.mpr fun _ _=>rfl
def rTEq(X:Cx)(neg:Bool)(d:Nat):R2:=fun x y H Q=>∃p q xs ys,x=.ref p∧y=.ref q∧SqT X.K H p xs∧SqT X.K H q ys∧xs.length=ys.length∧(∀i,i<xs.length→i<ys.length→EqD X H d (xs.getD i .non) (ys.getD i .non))∧Q (.bl (!neg)) H
theorem aDk{d:Nat}(hu:X.A.units+(d+1)<cLine):OpR X (compareOp .Eq) (rTEq X false d):=by
 intro pins s σ H x y v u Q I rx ry h
 obtain⟨p,q,xs,ys,rfl,rfl,hp,hq,hl,he,k⟩:=h
 obtain rfl:v=Value.ref p:=rx
 obtain rfl:u=Value.ref q:=ry
 obtain⟨us,r1,p1,_⟩:=I.tuple hp
 obtain⟨vs,r2,p2,_⟩:=I.tuple hq
 have e:(us.toArray.size==vs.toArray.size)=true:=by simp only[List.size_toArray];rw[← r1.length,← r2.length,hl];simp
 refine SeqAt.eq_tupleAt (e:=fun _=>true) (show s.heap.IsTuple p us.toArray from p1) (show s.heap.IsTuple q vs.toArray from p2) (by lia) (aBj I (by show X.A.units+1+d<cLine;lia) r1 r2 he) ⟨.bl _,H,I,rfl,?_⟩
 rw[aB4,e]
 exact k
end
end L2
namespace K12
open PySem L2 NetM
section
variable {P:Program} {w:World} {K:PySem.W.Frag} {mg:Str→Option Value} {base:Heap}
end
end K12
namespace L2
open PySem PySem.Spec PyProof.Rows
def kE(P:Program)(w:World)(h:Heap)(vs:List Value)(ps:List (List Key×Addr×Value)):Prop:=vs.length=ps.length∧∀ (i:Nat) (v:Value),vs[i]?=some v→∃ (a:Addr) (o:Obj) (n:Nat) (b:Addr) (k:List Key) (x:Value),v=Value.ref a∧h.get? a=some o∧o.cls=.type "tuple"∧o.data=.seq #[.ref b,x] n∧(tupleKind (bX P w)).is h k b∧ps[i]?=some (k,b,x)
theorem uI{P:Program}{w:World}{h h':Heap}{k:List Key}{b:Addr}(x:(tupleKind (bX P w)).is h k b)(q:∀b o,(∃xs n,o.data=.seq xs n)→h.get? b=some o→h'.get? b=some o):(tupleKind (bX P w)).is h' k b:=by
 obtain⟨o,its,n,h1,h2,h3,h4⟩:=x
 exact⟨o,its,n,q _ _ ⟨_,_,h3⟩ h1,h2,h3,h4⟩
theorem kE.keeps{P:Program}{w:World}{h h':Heap}{vs:List Value}{ps:List (List Key×Addr×Value)}(x:kE P w h vs ps)(k:∀b o,(∃xs n,o.data=.seq xs n)→h.get? b=some o→h'.get? b=some o):kE P w h' vs ps:=
 ⟨x.1,fun i v hv=>let ⟨a,o,n,b,kk,y,e1,e2,e3,e4,e5,e6⟩:=x.2 i v hv;⟨a,o,n,b,kk,y,e1,k a o ⟨_,_,e4⟩ e2,e3,e4,uI e5 k,e6⟩⟩
theorem nG{P:Program}{w:World}{h h':Heap}{d:Addr}{xs:List (List Key×Addr×Value)}(x:h.DictOfH (tupleKind (bX P w)) d xs)(kd:∀o,h.get? d=some o→h'.get? d=some o)(q:∀b o,(∃xs n,o.data=.seq xs n)→h.get? b=some o→h'.get? b=some o):h'.DictOfH (tupleKind (bX P w)) d xs:=by
 obtain⟨o,es,ep,h1,h2,h3,h4,h5,h6⟩:=x
 exact⟨o,es,ep,kd _ h1,h2,h3,h4,fun y hy=>uI (h5 y hy) q,h6⟩
section
variable {prog:Program} {w:World} {A:Around} {E:Value→Shared→Prop} {s:Shared} {R:Result→Shared→Prop} {l d Ia:Addr}
theorem zH{vs:List Value}{ps:List (List Key×Addr×Value)}(hh:A.handled=none)(hu:A.units+4<cLine)(hlD:l≠d)(hlI:l≠Ia)(hdI:d≠Ia):
  ∀ (k i:Nat) (j:Int) (t:Tok) (s:Shared) (kvs:List (List Key×Addr×Value)),vs.length-i=k→i≤vs.length→s.heap.IsListIter Ia l i→s.heap.IsList l vs.toArray→kE prog w s.heap vs ps→s.heap.DictOfH (tupleKind (bX prog w)) d kvs→kvs.length+k≤4096→
   (∀h' tk,(∀b o,b≠d→b≠Ia→s.heap.get? b=some o→h'.get? b=some o)→h'.DictOfH (tupleKind (bX prog w)) d ((ps.drop i).foldl (fun m p=>storedH m p.1 p.2.1 p.2.2) kvs)→R (.ok (.ret .none)) { s with heap:=h',toks:=tk })→
   codeAny (model prog w) A (.builtin "dict.update.loop" ⟨[.ref d,.ref Ia,.int j t,.none],[]⟩) R s:=by
 intro k
 induction k with
 |zero=>
  intro i j t s kvs hk hi hit hl hp hD hz hR
  refine codeAny_builtin mN ?_
  rw[Around.under_plainId gK _]
  show wpAny _ A.in1 (pyNext (.ref Ia) >>= _) _ _ s
  refine wpAny_bind (wpAny_pyNext_list_end (show A.in1.handled=none from hh) hit hl (by simp;lia) fun h' eb=>?_)
  have hd:ps.drop i=[]:=by rw[List.drop_eq_nil_iff];have:=hp.1;lia
  have hR':=hR h' s.toks (fun b o hb hbI e=>eb b o hbI e)
  rw[hd] at hR'
  refine wpAny_bind (wpAny_pure (wpAny_pure (hR' ?_)))
  refine nG hD (fun o e=>eb d o hdI e) fun b o hb e=>eb b o (fun z=>?_) e
  obtain⟨oi,e1,_,d1⟩:=hit
  obtain⟨xs,m,hb⟩:=hb
  rw[z,e1] at e;cases e
  rw[d1] at hb;cases hb
 |succ k ih=>
  intro i j t s kvs hk hi hit hl hp hD hz hR
  have hlt:i<vs.length:=by lia
  refine codeAny_builtin mN ?_
  rw[Around.under_plainId gK _]
  show wpAny _ A.in1 (pyNext (.ref Ia) >>= _) _ _ s
  have hv:vs[i]?=some vs[i]:=List.getElem?_eq_getElem hlt
  refine wpAny_bind (wpAny_pyNext_list_item hit hl (x:=vs[i]) (by simpa using hv) fun h1 hit1 sb1=>?_)
  have neI:∀b ob,(∃xs n,ob.data=.seq xs n)→s.heap.get? b=some ob→b≠Ia:=fun b ob ⟨xs,m,z⟩ e z'=>by
   obtain⟨oi,e1,_,d1⟩:=hit
   rw[z',e1] at e;cases e
   rw[d1] at z;cases z
  have k1:∀b ob,(∃xs n,ob.data=.seq xs n)→s.heap.get? b=some ob→h1.get? b=some ob:=fun b ob hb e=>(sb1.2 b (neI b ob hb e)).trans e
  have hp1:kE prog w h1 vs ps:=hp.keeps k1
  have hD1:h1.DictOfH (tupleKind (bX prog w)) d kvs:=nG hD (fun o e=>(sb1.2 d hdI).trans e) k1
  have hl1:h1.IsList l vs.toArray:=by
   obtain⟨ol,q1,q2⟩:=hl
   exact⟨ol,(sb1.2 l hlI).trans q1,q2⟩
  obtain⟨a,o,n,b,kk,x,ea,eo1,ec,ed,ek,ep⟩:=hp1.2 i _ hv
  rw[ea]
  have neD:∀b ob,(∃xs n,ob.data=.seq xs n)→h1.get? b=some ob→b≠d:=fun b ob ⟨xs,m,z⟩ e z'=>by
   obtain⟨oS,es,ep',q1,_,q4,_⟩:=hD1
   rw[z',q1] at e;cases e
   rw[q4] at z;cases z
  have hT:Shared.TypeIs { s with heap:=h1 } (.ref a) "tuple":=⟨o,eo1,ec⟩
  refine wpAny_bind (wpAny_holding ?_)
  show wpAny _ A.in1 (Sem.tryCatch (Builtin.Dict.pairItems (.ref a)) _ >>= _) _ _ _
  refine wpAny_bind (wpAny_tryCatch ?_)
  unfold Builtin.Dict.pairItems
  refine wpAny_bind (wpAny_typeOf hT ?_)
  rw[if_pos (by decide)]
  refine wpAny_bind (wpAny_seqItems eo1 ed (wpAny_pure ?_))
  show wpAny _ A.in1 (holding [.ref b,x] (dictSet d (.ref b) x)) _ _ _
  refine wpAny_holding (wpAny_dictSet_heap (s:={ s with heap:=h1 }) (show A.in1.units<cLine from by show A.units+1<cLine;lia) ek hD1 (fun h2 hD2 sb2=>?_) (Nat.le_trans (by lia:kvs.length≤4096) (by decide)))
  refine wpAny_pure ⟨plainId_quiet gK _,?_⟩
  have hi2:i<ps.length:=by have:=hp.1;lia
  have hdr:ps.drop i=(kk,b,x)::ps.drop (i+1):=by
   rw[List.drop_eq_getElem_cons hi2]
   have:ps[i]?=some ps[i]:=List.getElem?_eq_getElem hi2
   rw[this] at ep
   rw[Option.some.inj ep]
  have hlen:(storedH kvs kk b x).length≤kvs.length+1:=by
   unfold storedH
   split
   ·rw[List.length_map];lia
   ·rw[List.length_append];simp
  have k2:∀b ob,(∃xs n,ob.data=.seq xs n)→h1.get? b=some ob→h2.get? b=some ob:=fun b ob hb e=>(sb2.2 b (neD b ob hb e)).trans e
  refine ih (i+1) _ _ { s with heap:=h2,toks:=_ } (storedH kvs kk b x) (by lia) hlt ?_ ?_ (hp1.keeps k2) hD2 (by lia) fun h3 tk3 k3 D3=>?_
  ·obtain⟨oi,q1,q2⟩:=hit1
   exact⟨oi,(sb2.2 Ia (Ne.symm hdI)).trans q1,q2⟩
  ·obtain⟨ol,q1,q2⟩:=hl1
   exact⟨ol,(sb2.2 l hlD).trans q1,q2⟩
  ·refine hR h3 tk3 (fun b ob hb hbI e=>k3 b ob hb hbI ((sb2.2 b hb).trans ((sb1.2 b hbI).trans e))) ?_
   rw[hdr]
   exact D3
end
end L2
namespace L2
open PySem PySem.Spec PyProof.Rows
section
variable {prog:Program} {w:World} {A:Around} {E:Value→Shared→Prop} {s:Shared} {l:Addr}
theorem aEf{P:Program}{w:World}(h:Heap):(h.push { cls:=.type "dict",data:=.dict #[] }).DictOfH (tupleKind (bX P w)) h.objs.size []:=
 ⟨_,#[],0,Heap.get?_push_size _ rfl,⟨rfl,rfl,rfl⟩,rfl,rfl,(fun x hx=>nomatch hx),List.nodup_nil⟩
theorem zI{vs:List Value}{n:Nat}{ps:List (List Key×Addr×Value)}{Q:Value→Shared→Prop}(hh:A.handled=none)(hu:A.units+8<cLine)(hl:s.heap.get? l=some { cls:=.type "list",data:=.seq vs.toArray n })(hp:kE prog w s.heap vs ps)(hz:vs.length≤4096)(h:∀h' tk,h'.DictOfH (tupleKind (bX prog w)) s.heap.objs.size (ps.foldl (fun m p=>storedH m p.1 p.2.1 p.2.2) [])→(∀b o,s.heap.get? b=some o→h'.get? b=some o)→Q (.ref s.heap.objs.size) { s with heap:=h',toks:=tk }):
  wpAny (model prog w) A (call (.type "dict") [.ref l]) Q E s:=by
 refine callType_codes (Q₁:=fun obj s₁=>obj=.ref s.heap.objs.size∧s₁={ s with heap:=s.heap.push { cls:=.type "dict",data:=.dict #[] } }) F.kt_called_dict (F.kt_typeCall_dict_1 _) F.entry_dict_init (kt_code_dict_new _ ⟨rfl,rfl⟩) ?_
 rintro obj s₁ ⟨rfl,rfl⟩
 have hnew0:(s.heap.push { cls:=.type "dict",data:=.dict #[] }).DictOf (bX prog w) s.heap.objs.size []:=Heap.DictOf.new s.heap
 have hnew:(s.heap.push { cls:=.type "dict",data:=.dict #[] }).DictOfH (tupleKind (bX prog w)) s.heap.objs.size []:=aEf s.heap
 have hsz:(s.heap.push { cls:=.type "dict",data:=.dict #[] }).objs.size=s.heap.objs.size+1:=Heap.size_push ..
 have up:∀b o,s.heap.get? b=some o→(s.heap.push { cls:=.type "dict",data:=.dict #[] }).get? b=some o:=fun b o e=>Heap.get?_push_of_some _ e
 have hlt:l<s.heap.objs.size:=Heap.lt_size hl
 refine⟨hnew0.typeIs,F.args_dict_init_2 _ _,?_⟩
 generalize (s.heap.push { cls:=.type "dict",data:=.dict #[] })=hD at *
 have hT:Shared.TypeIs { s with heap:=hD } (.ref l) "list":=⟨_,up _ _ hl,rfl⟩
 unfold Builtin.«dict.__init__»
 refine wpAny_bind ?_
 unfold Builtin.Dict.selfAndRest
 refine wpAny_bind (wpAny_notOrdered_dict hnew0.typeIs (wpAny_pure ?_))
 show wpAny _ _ (Builtin.Dict.updateFrom "dict.__init__" s.heap.objs.size (.ref l) [] .none) _ _ _
 unfold Builtin.Dict.updateFrom
 refine wpAny_bind (wpAny_typeOf hT ?_)
 rw[if_pos (by decide)]
 refine wpAny_bind (aD7 (s:={ s with heap:=hD }) (show A.in1.handled=none from hh) (up _ _ hl) fun h1 tk1 k1=>?_)
 have hl1:h1.get? l=some { cls:=.type "list",data:=.seq vs.toArray n }:=k1 _ _ (up _ _ hl)
 have hL1:h1.IsList l vs.toArray:=⟨_,hl1,rfl,n,rfl⟩
 rw[if_pos (by rfl)]
 refine wpAny_bind (wpAny_rule ?_)
 refine wpAny_bind (wpAny_pyIter_list (s:={ s with heap:=h1,toks:=tk1 }) hL1 ?_)
 have hDI:s.heap.objs.size<h1.objs.size:=by
  obtain⟨o,es,ep,q1,q2⟩:=hnew
  exact Heap.lt_size (k1 _ _ q1)
 refine wpAny_pure ⟨plainId_quiet gK _,?_⟩
 refine zH (l:=l) (vs:=vs) (ps:=ps) (Ia:=h1.objs.size) (show A.in1.handled=none from hh) (show A.units+1+4<cLine by lia) (Nat.ne_of_lt hlt) (Nat.ne_of_lt (Nat.lt_trans hlt hDI)) (Nat.ne_of_lt hDI) vs.length 0 0 0 _ [] (by simp) (Nat.zero_le _) ⟨_,Heap.get?_push_size _ rfl,rfl,rfl⟩ ?_ ?_ ?_ (by simpa using hz) fun h2 tk2 k2 D2=>?_
 ·exact⟨_,Heap.get?_push_of_some _ hl1,rfl,n,rfl⟩
 ·exact hp.keeps fun b o _ e=>Heap.get?_push_of_some _ (k1 _ _ (up _ _ e))
 ·exact nG hnew (fun o e=>Heap.get?_push_of_some _ (k1 _ _ e)) fun b o _ e=>Heap.get?_push_of_some _ (k1 _ _ e)
 ·refine⟨rfl,h h2 tk2 D2 fun b o e=>k2 b o (Nat.ne_of_lt (Heap.lt_size e)) (Nat.ne_of_lt (Nat.lt_trans (Heap.lt_size e) hDI)) (Heap.get?_push_of_some _ (k1 _ _ (up _ _ e)))⟩
end
abbrev TK:=List Key×Addr×V
def cP(m:List (List Key×V))(ps:List TK):List (List Key×V):=ps.foldl (fun m p=>putK m p.1 p.2.2) m
inductive KP (H:Hp):List TK→List (List Key×Addr×Value)→Prop where
 |nil:KP H [] []
 |cons {k:List Key} {b:Addr} {v:V} {u:Value} {ps:List TK} {us:List (List Key×Addr×Value)} (hb:H b=some (.tup (k.map kV))) (r:RelV v u) (t:KP H ps us):KP H ((k,b,v)::ps) ((k,b,u)::us)
theorem KP.fold{H:Hp}:∀ {ps:List TK} {us:List (List Key×Addr×Value)} {m:List (List Key×V)} {m':List (List Key×Addr×Value)},KP H ps us→KT H m m'→KT H (cP m ps) (us.foldl (fun m p=>storedH m p.1 p.2.1 p.2.2) m')
 |[],_,_,_,.nil,r=>r
 |(k,b,v)::ps,_,m,m',.cons (us:=us) hb rv t,r=>by
  have:=KP.fold (ps:=ps) (us:=us) t (r.put k hb rv)
  exact this
theorem mT:∀ (ps:List TK) (m:List (List Key×V)),(cP m ps).length≤m.length+ps.length
 |[],m=>by show m.length≤_;simp
 |p::ps,m=>by
  have h1:=mT ps (putK m p.1 p.2.2)
  have h2:=vR m p.1 p.2.2
  show (cP (putK m p.1 p.2.2) ps).length≤_
  rw[List.length_cons];lia
theorem uJ{P:Program}{w:World}{H:Hp}{h:Heap}(ok:HOk P w H h):∀ (ts:List Addr) (ps:List TK),ts.length=ps.length→(∀i,i<ps.length→∃k b v,ps[i]?=some (k,b,v)∧H (ts.getD i 0)=some (.tup [.ref b,v])∧H b=some (.tup (k.map kV)))→
  ∃us:List (List Key×Addr×Value),KP H ps us∧kE P w h (ts.map Value.ref) us
 |[],[],_,_=>⟨[],.nil,rfl,fun i v hv=>by simp at hv⟩
 |[],_::_,e,_=>by simp at e
 |_::_,[],e,_=>by simp at e
 |t::ts,(k,b,v)::ps,e,hs=>by
  obtain⟨us,r,T⟩:=uJ ok ts ps (by simpa using e) fun i hi=>by
   obtain⟨k',b',v',h1,h2,h3⟩:=hs (i+1) (by simp;lia)
   exact⟨k',b',v',by simpa using h1,by simpa using h2,h3⟩
  obtain⟨k0,b0,v0,g1,g2,g3⟩:=hs 0 (by simp)
  have g1':(k,b,v)=(k0,b0,v0):=by simpa using g1
  cases g1'
  have g2':H t=some (.tup [.ref b,v]):=by simpa using g2
  obtain⟨_,its,rv,o,q1,q2,n,q3⟩:=ok t _ g2'
  cases rv with
  |cons ra rr=>
   cases rr with
   |cons rb rr2=>
    cases rr2
    rename_i ka vb
    obtain rfl:ka=Value.ref b:=ra
    refine⟨(k,b,vb)::us,.cons g3 rb r,by simp[T.1],fun i x hx=>?_⟩
    cases i with
    |zero=>
     have hx':Value.ref t=x:=by simpa using hx
     exact⟨t,o,n,b,k,vb,hx'.symm,q1,q2,q3.1,jK ok g3,rfl⟩
    |succ i=>exact T.2 i x (by simpa using hx)
section
variable {X:Cx}
def aEg:List V→Hp→VK→Prop:=fun xs H Q=>∃ (l:Addr) (ts:List Addr) (ps:List TK),xs=[.ref l]∧H l=some (.lst (ts.map V.ref))∧ts.length=ps.length∧(∀i,i<ps.length→∃k b v,ps[i]?=some (k,b,v)∧H (ts.getD i 0)=some (.tup [.ref b,v])∧H b=some (.tup (k.map kV)))∧ps.length≤4096∧
 ∀D,H D=none→Q (.ref D) (upd H D (.dT (cP [] ps)))
theorem zJ(hc:X.calm=true)(hu:X.A.units+8<cLine):cU X (.type "dict") aEg:=by
 intro pins s σ H xs us Q I r h
 obtain⟨l,ts,ps,rfl,hl,hlen,ht,hz,q⟩:=h
 obtain⟨u1,rfl,r1⟩:=r.one
 obtain rfl:u1=Value.ref l:=r1
 obtain⟨z,its,n,rv,_,e⟩:=I.lstM hl
 have hits:its=ts.map Value.ref:=pF rv
 subst hits
 obtain⟨vs,kv,T⟩:=uJ I.hok ts ps hlen ht
 refine zI (I.ok.hd hc) hu e T (by rw[List.length_map,hlen];exact hz) fun h' tk D k=>?_
 have hs:sysModules<s.heap.objs.size:=Nat.lt_trans (by decide:sysModules<mainGlobals) (I.mod.glob.keeps I.bk).lt
 have nf:=I.hok.fresh (Nat.le_refl s.heap.objs.size)
 have I2:Inv X pins σ (upd H s.heap.objs.size (.dT (cP [] ps))) { s with heap:=h',toks:=tk }:=by
  obtain⟨o,es,ep,h1,h2,h3,h4,_,h6⟩:=D
  refine I.laidN (t':=tk) k (Heap.get?_none_of_le (Nat.le_refl _)) ⟨?_,?_,_,KT.keeps (KP.fold kv .nil) fun b ys eb=>?_,o,es,ep,h1,h2,h3,h4,h6⟩
  ·have:=mT ps []
   exact Nat.le_trans this (Nat.le_trans (by simpa using hz) (by decide:4096≤sizeLine))
  ·rw[beq_eq_false_iff_ne]
   exact Nat.ne_of_gt hs
  ·rw[aH (aG eb nf)];exact eb
 exact⟨.ref s.heap.objs.size,_,I2,rfl,q _ nf⟩
end
end L2
namespace L2
open PySem PySem.Spec PyProof.Rows
structure Mk0(K:PySem.W.Frag)(C:Addr):Prop where
 makes:PySem.W.makesIn K C=true
 init:PySem.W.findIn K (.ref C) "__init__"=some (some (.builtin "object.__init__"))
 keep:PySem.W.keepIn K (.ref C)=true
section
variable {X:Cx} {C:Addr} {x:Str} {p pos:Pos}
def tNew(C:Addr):TE:=fun _ H Q=>∀y dx,H y=none→H dx=none→dx≠y→Q (.ref y) (upd (upd H dx (.own y)) y (.ins C dx []))
theorem aEh(M:Mk0 X.K C)(hg:Gl X x)(hm:X.mg x=some (.ref C))(hdb:(x==("__debug__":Str))=false:=by decide):PE X (.Call (.Name x p) [] [] pos) (tNew C):=by
 intro pins s σ H Q I h
 refine wpAny_Call_Name_kw (lM I hg hm ?_ hdb)
 have I2:=Inv.made (C:=C) I
 have fin:wpAny (model X.prog X.w) X.A (call (.ref C) []) (EP X pins σ Q) X.xe s:=by
  refine wpAny_call ?_
  refine aAq I.kIn M.makes M.init (fun self=>PySem.W.Looks.of_pure (PySem.W.oi_bind self)) ?_
  have Y:=PySem.W.makes_of (M:=model X.prog X.w) I.kIn M.makes
  have t1:PySem.W.Looks (model X.prog X.w) ((s.heap.push PySem.W.emptyDict).push (PySem.W.instObj C s.heap.objs.size)) (typeOf (.ref (s.heap.objs.size+1))) (.ref C):=(PySem.W.Looks.ld (by heap_get)).andThen .now
  have t2:PySem.W.Looks (model X.prog X.w) ((s.heap.push PySem.W.emptyDict).push (PySem.W.instObj C s.heap.objs.size)) (isInstance (.ref (s.heap.objs.size+1)) (.type "object")) true:=t1.andThen (Y.top.keeps fun b o e=>Heap.get?_push_of_some _ (Heap.get?_push_of_some _ e))
  refine codeAny_call_builtin PySem.W.oi_plain PySem.W.entry_oi (@PySem.W.check_slot (model X.prog X.w) _ _ _ "object.__init__" "object" "__init__" (.ref (s.heap.objs.size+1)) [] [] _ PySem.W.oi_kind PySem.W.oi_split t2 (PySem.W.oi_args (.ref (s.heap.objs.size+1))) ?_)
  rw[PySem.W.oi_run]
  refine wpAny_pure (And.intro rfl ?_)
  exact⟨.ref (s.heap.objs.size+1),_,I2,rfl,h _ _ (I.hok.fresh (Nat.le_succ _)) (I.hok.fresh (Nat.le_refl _)) (Nat.ne_of_lt (Nat.lt_succ_self _))⟩
 exact PySem.W.callWith_K0 I.kIn M.keep fin
end
end L2
namespace L2
open PySem PySem.Spec PyProof.Rows
section
variable {X:Cx}
end
end L2
namespace L2
open PySem PySem.Spec PyProof.Rows
section
variable {X:Cx}
end
end L2
namespace NetM
abbrev deg(ts:Ts)(h:Int):Nat:=(ts.filter fun t=>decide (t.1=h)).length
theorem xL{ts us:Ts}{h:Int}:deg (ts++us) h=deg ts h+deg us h:=by unfold deg;rw[List.filter_append,List.length_append]
theorem pO{a b h:Int}:deg [(a,b),(b,a)] h=(if a=h then 1 else 0)+(if b=h then 1 else 0):=by
 unfold deg
 by_cases c1:a=h <;> by_cases c2:b=h <;> simp[c1,c2]
theorem xM{ps:Ts}{a b h:Int}:deg (dbl (ps++[(a,b)])) h=deg (dbl ps) h+((if a=h then 1 else 0)+(if b=h then 1 else 0)):=by
 rw[jZ,xL]
 exact congrArg _ pO
theorem aDl{a b:Int}:dbl [(a,b)]=[(a,b),(b,a)]:=rfl
theorem aDm{n:Nat}{a b:Nat}(ha:a<n)(hb:b<n)(hab:a≠b):Pre n [(ci a,ci b),(ci b,ci a)]:=by
 have ne:ci a≠ci b:=fun e=>hab (Int.ofNat.inj e)
 refine⟨?_,?_,?_,?_,?_⟩
 ·rw[List.nodup_cons]
  refine⟨fun h=>?_,by simp⟩
  have:=List.mem_singleton.mp h
  exact ne (congrArg Prod.fst this)
 ·intro t ht
  rcases List.mem_cons.mp ht with rfl|ht
  ·exact⟨⟨by lia,by lia⟩,⟨by lia,by lia⟩⟩
  ·rw[List.mem_singleton.mp ht];exact⟨⟨by lia,by lia⟩,⟨by lia,by lia⟩⟩
 ·intro t ht
  rcases List.mem_cons.mp ht with rfl|ht
  ·exact ne
  ·rw[List.mem_singleton.mp ht];exact fun e=>ne e.symm
 ·intro h
  by_cases c1:ci a=h <;> by_cases c2:ci b=h <;> simp[c1,c2]
 ·intro h
  have:=pO (a:=ci a) (b:=ci b) (h:=h)
  show deg [(ci a,ci b),(ci b,ci a)] h≤8
  rw[this]
  split <;> split <;> lia
theorem Fine.pair{n:Nat}{ps:Ts}{a b:Nat}(F:Fine n (dbl ps))(ha:a<n)(hb:b<n)(hab:a≠b)(h1:(ci a,ci b)∉ps)(h2:(ci b,ci a)∉ps)(d1:deg (dbl ps) (ci a)≤7)(d2:deg (dbl ps) (ci b)≤7):Fine n (dbl (ps++[(ci a,ci b)])):=by
 rw[jZ,aDl]
 have ne:ci a≠ci b:=fun e=>hab (Int.ofNat.inj e)
 refine F.app (lZ F.pre (aDm ha hb hab) (fun t ht=>?_) fun h=>?_)
 ·rcases List.mem_cons.mp ht with rfl|ht
  ·exact fun z=>(jO.mp z).elim h1 h2
  ·rw[List.mem_singleton.mp ht]
   exact fun z=>(jO.mp z).elim h2 h1
 ·show deg (dbl ps) h+deg [(ci a,ci b),(ci b,ci a)] h≤8
  rw[pO]
  have m:=F.most h
  by_cases c1:ci a=h
  ·subst c1
   rw[if_pos rfl,if_neg (fun e=>ne e.symm)];lia
  ·by_cases c2:ci b=h
   ·subst c2
    rw[if_neg c1,if_pos rfl];lia
   ·rw[if_neg c1,if_neg c2];exact m
theorem aDn{n:Nat}{ts:Ts}(P:Pre n ts):Pre n (ts.map swp):=by
 have fl:∀h:Int,((ts.map swp).filter fun t=>decide (t.1=h)).length=(ts.filter fun t=>decide (t.2=h)).length:=fun h=>by
  rw[List.filter_map,List.length_map];rfl
 have fl2:∀h:Int,((ts.map swp).filter fun t=>decide (t.2=h)).length=(ts.filter fun t=>decide (t.1=h)).length:=fun h=>by
  rw[List.filter_map,List.length_map];rfl
 refine⟨?_,fun t ht=>?_,fun t ht=>?_,fun h=>?_,fun h=>?_⟩
 ·refine List.pairwise_map.mpr (P.nd.imp fun {x y} hxy e=>hxy ?_)
  have e1:=congrArg Prod.fst e
  have e2:=congrArg Prod.snd e
  exact Prod.ext e2 e1
 ·obtain⟨u,hu,rfl⟩:=List.mem_map.mp ht
  exact⟨(P.rg u hu).2,(P.rg u hu).1⟩
 ·obtain⟨u,hu,rfl⟩:=List.mem_map.mp ht
  exact fun e=>P.ne u hu e.symm
 ·rw[fl,fl2,P.bal]
 ·rw[fl,← P.bal];exact P.most h
theorem aEi{m k:Nat}(h:3≤m)(hk:k<m):pk m (pk m k)≠k:=by
 unfold pk
 split <;> split <;> lia
theorem wA{n:Nat}{xs:List Nat}(n1:3≤n)(n2:n≤32)(pm:xs.Perm (List.range n)):Fine n (dbl (cyc xs)):=by
 have F:=qT (by lia) n2 pm
 have nd:xs.Nodup:=pm.nodup_iff.mpr List.nodup_range
 have hl:xs.length=n:=by rw[pm.length_eq,List.length_range]
 have lt:∀x∈xs,x<n:=fun x hx=>List.mem_range.mp (pm.mem_iff.mp hx)
 obtain⟨P,one⟩:=pI nd lt (by lia)
 have Q:=aDn P
 refine Fine.perm ?_ eZ
 refine F.app (lZ P Q (fun t ht hm=>?_) fun h=>?_)
 ·obtain⟨u,hu,rfl⟩:=List.mem_map.mp ht
  obtain⟨k,hk,rfl⟩:=jN hu
  obtain⟨j,hj,e⟩:=jN hm
  have e1:xs.getD k 0=xs.getD (pk xs.length j) 0:=Int.ofNat.inj (congrArg Prod.fst e)
  have e2:xs.getD (pk xs.length k) 0=xs.getD j 0:=Int.ofNat.inj (congrArg Prod.snd e)
  have pj:=lY hj
  have pk':=lY hk
  rw[cC hk,cC pj] at e1
  rw[cC pk',cC hj] at e2
  have i1:=gW nd hk pj e1
  have i2:=gW nd pk' hj e2
  rw[← i2] at i1
  exact aEi (by lia) hk i1.symm
 ·have o1:=one h
  have e:((cyc xs).map swp).filter (fun t=>decide (t.1=h))=((cyc xs).filter fun t=>decide (t.2=h)).map swp:=by rw[List.filter_map];rfl
  rw[e,List.length_map,← P.bal]
  lia
def cyc2(xs:List Nat):Ts:=(List.range xs.length).map fun k=>(ci (xs.getD k 0),ci (xs.getD ((k+1) % xs.length) 0))
theorem aB5{m:Nat}:((List.range m).map fun k=>(k+1) % m).Perm (List.range m):=by
 cases m with
 |zero=>exact List.Perm.refl _
 |succ m=>
  rw[List.range_succ,List.map_append,List.map_singleton,Nat.mod_self]
  have e:(List.range m).map (fun k=>(k+1) % (m+1))=(List.range m).map (·+1):=List.map_congr_left fun k hk=>Nat.mod_eq_of_lt (by have:=List.mem_range.mp hk;lia)
  rw[e]
  refine List.perm_append_comm.trans ?_
  rw[← List.range_succ,List.range_succ_eq_map]
  exact List.Perm.refl _
theorem iY{xs:List Nat}:(cyc2 xs).Perm (cyc xs):=by
 have h:=(aB5 (m:=xs.length)).map fun k=>(ci (xs.getD (pk xs.length k) 0),ci (xs.getD k 0))
 rw[List.map_map] at h
 refine List.Perm.trans (List.Perm.of_eq ?_) h
 unfold cyc2
 refine List.map_congr_left fun k hk=>?_
 have hk':=List.mem_range.mp hk
 have:pk xs.length ((k+1) % xs.length)=k:=by
  by_cases c:k+1=xs.length
  ·rw[c,Nat.mod_self];unfold pk;rw[if_pos rfl];lia
  ·rw[Nat.mod_eq_of_lt (by lia)];unfold pk;rw[if_neg (by lia)];lia
 show _=(ci (xs.getD (pk xs.length ((k+1) % xs.length)) 0),ci (xs.getD ((k+1) % xs.length) 0))
 rw[this]
theorem Fine.round{n:Nat}{ts:Ts}{xs:List Nat}(F:Fine n ts)(nd:xs.Nodup)(lt:∀x∈xs,x<n)(c2:2≤xs.length)(hf:∀x∈xs,deg ts (ci x)≤7)(hn:∀t∈cyc2 xs,t∉ts):Fine n (ts++cyc2 xs):=by
 have P:=aA3 F.pre nd lt c2 (fun t ht=>?_) (fun t ht=>hn t (iY.mem_iff.mpr ht))
 ·exact(F.app P).perm (List.Perm.append_left _ iY)
 ·obtain⟨k,hk,rfl⟩:=jN ht
  exact hf _ (iX (lY hk))
end NetM
namespace K12
open PySem L2 NetM
abbrev sPot:Stmt:=top 33
abbrev zK:Stmt:=top 34
abbrev zL:Stmt:=top 46
structure Bl2(mg:Str→Option Value):Prop where
 abs:mg "abs"=none
 divmod:mg "divmod"=none
 dict:mg "dict"=none
 zip:mg "zip"=none
 repr:mg "repr"=none
theorem aBk{e:V→V→Bool}:∀ {xs:List V},eG e xs []=decide (xs=[])
 |[]=>rfl
 |x::xs=>by simp[eG]
def aY(H:Hp)(p:Addr):Prop:=∃a b:Int,H p=some (.lst [.int a,.int b])∧0≤a∧0≤b∧b<4294967296
theorem aY.same{H H':Hp}{p:Addr}(h:aY H p)(s:Same H H'):aY H' p:=let ⟨a,b,e,r⟩:=h;⟨a,b,s _ _ e,r⟩
theorem aY.full{H:Hp}{p:Addr}(h:aY H p):H p≠none:=by obtain⟨a,b,e,_⟩:=h;rw[e];intro z;cases z
theorem aY.ne{H:Hp}{p q:Addr}(h:aY H p)(e:H q=none):q≠p:=by rintro rfl;exact h.full e
theorem aY.put{H:Hp}{p q:Addr}{o:HO}(h:aY H p)(n:p≠q):aY (upd H q o) p:=let ⟨a,b,e,r⟩:=h;⟨a,b,by rw[aH n];exact e,r⟩
theorem aY.neT{H:Hp}{p q:Addr}{xs:List V}(h:aY H p)(e:H q=some (.tup xs)):q≠p:=by rintro rfl;obtain⟨a,b,z,_⟩:=h;rw[e] at z;cases z
theorem PO.sameE{H H':Hp}{p:Addr}{zs:Zs}(h:PO H zs)(s:aO p H H')(hp:aY H p):PO H' zs:=fun z hz=>s _ _ (h z hz) (hp.neT (h z hz))
theorem noPy{j:Int}(h1:0<j)(h2:j<2 ^ 64):Nat.log2 j.natAbs<64:=(Nat.log2_lt (by lia)).mpr (by lia)
theorem aB6{X:Cx}:OpR X (binaryOp .FloorDiv) (rI (fun _ j=>0<j∧j<2 ^ 64) fun i j=>.int (i / j)):=opI fun i j _ _ _ _ _ hc q=>by
 have h1:(0:Int)<j:=hc.1
 have h2:j<2 ^ 64:=hc.2
 refine PyProof.Rows.floordiv_int (by lia) (by rw[Int.fdiv_eq_ediv_of_nonneg i (by lia)];exact q) (.inl (PyProof.noPylong_of_log2 ?_))
 exact Nat.lt_trans (noPy h1 h2) (by decide)
theorem uK{X:Cx}:cU X (.builtin "divmod") (fun xs H Q=>∃i j,xs=[.int i,.int j]∧(0<j∧j<2 ^ 64)∧∀p,H p=none→Q (.ref p) (upd H p (.tup [.int (i / j),.int (i % j)]))):=by
 intro pins s σ H xs us Q I r h
 obtain⟨i,j,rfl,⟨h1,h2⟩,q⟩:=h
 obtain⟨u,w',rfl,⟨t,rfl⟩,⟨t',rfl⟩⟩:=xY r
 refine PyProof.Rows.divmod_int (by lia) ?_ (.inl (PyProof.noPylong_of_log2 (Nat.lt_trans (noPy h1 h2) (by decide))))
 rw[Int.fdiv_eq_ediv_of_nonneg i (by lia),Int.fmod_eq_emod_of_nonneg i (by lia)]
 have hn:H s.heap.objs.size=none:=I.hok.fresh (Nat.le_refl _)
 refine⟨.ref s.heap.objs.size,_,?_,rfl,q _ hn⟩
 refine I.laid (fun b o e=>Heap.get?_push_of_some _ e) (Nat.le_refl _) ⟨by simp only[List.length_cons,List.length_nil];rw[sizeLine_eq];decide,[.int (i / j) s.toks,.int (i % j) (s.toks+1)],.cons ⟨_,rfl⟩ (.cons ⟨_,rfl⟩ .nil),?_⟩
 exact⟨_,Heap.get?_push_size s.heap rfl,rfl,0,rfl,rfl⟩
section
variable {P:Program} {w:World} {K:PySem.W.Frag} {mg:Str→Option Value} {base:Heap}
theorem aCA:aW ["_law_script","_law_k","_law_cell"] ["_law_script","_law_k"] (aL sPot):=⟨rfl,rfl,rfl,by decide +kernel,rfl,by decide +kernel,by decide +kernel⟩
def zM(K:PySem.W.Frag):Sp:=fun vs H Q _=>∃ (a:Addr) (ns:List Int) (k:Nat),vs=[.ref a,.int k]∧SqL K H a (ns.map V.int)∧k<64∧∀ (r:Addr) (H':Hp),Same H H'→H r=none→aY H' r→Q (.ref r) H'
theorem aEj{f:Addr}{fd:FuncData}(F:Fun K "_law_pot" "_law_pot" sPot f fd)(B:Bl mg)(B2:Bl2 mg):FnOk P w K mg base CX0 1 f fd ["_law_script","_law_k"] (zM K):=by
 refine F.ok aCA (fun vs H Q E h=>?_) (fun cdv A outer s H vs Q E hr h=>?_)
 ·obtain⟨a,ns,k,rfl,_⟩:=h
  rfl
 ·obtain⟨a,ns,k,rfl,hS,hk,q⟩:=h
  refine⟨_,(aF (aT (i:=2) aCA.nd rfl (Or.inl rfl) (aBF (aX gJ (pv 1) (aU bC (by rfl) B.len PySem.boot_len (aA (pv 0) aD)) (aZ _)) (aS aP (pv 0) (pv 1) (fun _ _=>rfl)) aJ))
   (aI (bA (bY (aA (aU (pZ rfl) (by rfl) B.max PyProof.Rows.boot_max (aA aJ (aA (aV gU (aU rY (by rfl) B2.abs PyProof.Rows.boot_abs (aA (pv 2) aD)) (aV aAm aJ aJ)) aD))) (aA (aV cD (aV cD (aV fK (aU rY (by rfl) B2.abs PyProof.Rows.boot_abs (aA (pv 2) aD)) aJ) (aV iK aJ (pv 1))) aJ) aD)))))),?_⟩
  dsimp only
  refine kB (fun σ Hc=>Hc=H∧∃c:Int,σ=[some (.ref a),some (.int k),some (.int c)]) ?_ ?_
  ·rintro σ Hc ⟨rfl,c,rfl⟩
   obtain⟨z,hz,z0⟩:∃z:Int,z=(if c<0 then -c else c)∧0≤z:=⟨_,rfl,by split <;> lia⟩
   have m0:0≤z % 2147483629:=Int.emod_nonneg _ (by decide)
   have m1:z % 2147483629<2147483629:=Int.emod_lt_of_pos _ (by decide)
   refine⟨_,rfl,c,rfl,?_⟩
   rw[← hz]
   refine⟨_,_,rfl,rfl,⟨by decide,by decide,by decide⟩,_,_,rfl,rfl,0,_,rfl,_,rfl,c,rfl,?_⟩
   rw[← hz]
   refine⟨_,_,rfl,rfl,(by show (0:Int)<2147483629;decide),_,rfl,_,_,rfl,rfl,.inl ⟨by decide,by decide⟩,_,_,rfl,rfl,_,_,rfl,rfl,by show 2≤sizeLine;decide,fun r hr'=>?_⟩
   exact q r _ (aE hr') hr' ⟨_,_,aB,by split <;> lia,by lia,by lia⟩
  ·intro N hN
   refine⟨_,rfl,_,rfl,a,_,rfl,.inl hS,_,_,rfl,rfl,_,rfl,ite2 (fun e=>?_) (fun e=>hN _ _ ⟨rfl,0,rfl⟩)⟩
   have hk2:k<ns.length:=by have:=of_decide_eq_true e;rw[List.length_map] at this;lia
   exact⟨_,rfl,_,rfl,a,_,_,.int ns[k],rfl,rfl,hS,aM (by rw[List.getElem?_map,List.getElem?_eq_getElem hk2];rfl),hN _ _ ⟨rfl,_,rfl⟩⟩
theorem aBl:aW ["_law_pot_here","_law_many","_law_digit"] ["_law_pot_here","_law_many"] (aL zK):=⟨rfl,rfl,rfl,by decide +kernel,rfl,by decide +kernel,by decide +kernel⟩
def eL:Sp:=fun vs H Q _=>∃ (p:Addr) (m:Nat),vs=[.ref p,.int m]∧0<m∧m<2 ^ 60∧aY H p∧∀ (d:Nat) (H':Hp),d<m→aO p H H'→aY H' p→Q (.int d) H'
theorem aDo{f:Addr}{fd:FuncData}(F:Fun K "_law_take" "_law_take" zK f fd)(B2:Bl2 mg):FnOk P w K mg base CX0 1 f fd ["_law_pot_here","_law_many"] eL:=by
 refine F.ok aBl (fun vs H Q E h=>?_) (fun cdv A outer s H vs Q E hr h=>?_)
 ·obtain⟨p,m,rfl,_⟩:=h
  rfl
 ·obtain⟨p,m',rfl,m0',m1',⟨a,b,hp,a0,b0,b1⟩,q'⟩:=h
  generalize hm:((m':Nat):Int)=m
  have m0:0<m:=by lia
  have m1:m<2 ^ 60:=by lia
  have q:∀ (d a b:Int) (H':Hp),0≤d→d<m→0≤a→0≤b→b<4294967296→aO p H H'→H' p=some (.lst [.int a,.int b])→Q (.int d) H':=fun d a b H' h1 h2 h3 h4 h5 h6 h7=>by
   have:=q' d.toNat H' (by lia) h6 ⟨a,b,h7,h3,h4,h5⟩
   rw[Int.toNat_of_nonneg h1] at this
   exact this
  refine⟨_,(aF (bZ (aX aCo (aS aP (pv 0) aJ (fun _ _=>rfl)) aJ (aZ _)) (aF (cK (aU uK (by rfl) B2.divmod PyProof.Rows.boot_divmod (aA (aS aP (pv 0) aJ (fun _ _=>rfl)) (aA (pv 1) aD))) (cM (n:=2) rfl (aR (dH (pv 0) aJ cN) (aR (aK (i:=2) aBl.nd rfl (Or.inl rfl)) cF))))
    (aI (bA (pv 2)))) bS)
   (aF (cK (aV fK (aV cD (aV iK (aS aP (pv 0) aJ (fun _ _=>rfl)) aJ) aJ) aJ) (dH (pv 0) aJ cN))
   (aI (bA (aV fK (aV aB6 (aV fK (aV iK (aS aP (pv 0) aJ (fun _ _=>rfl)) (aS aP (pv 0) aJ (fun _ _=>rfl))) aJ) aJ) (pv 1)))))),?_⟩
  have g0:atI [V.int a,V.int b] 0=some (.int a):=aM (j:=0) rfl
  have g1:atI [V.int a,V.int b] 1=some (.int b):=aM (j:=1) rfl
  refine⟨_,rfl,p,_,_,_,rfl,rfl,SqL.of hp,g0,_,_,rfl,rfl,_,rfl,?_⟩
  refine ite2 (fun e=>?_) (fun e=>?_)
  ·refine⟨_,rfl,p,_,_,_,rfl,rfl,SqL.of hp,g0,_,rfl,_,_,rfl,⟨m0,by lia⟩,fun t ht=>?_⟩
   have npt:p≠t:=aG hp ht
   refine⟨t,_,rfl,SqT.of aB,rfl,_,_,rfl,?_⟩
   refine⟨_,rfl,p,_,0,0,rfl,rfl,by rw[aH npt];exact hp,cV (j:=0) (by show 0<2;decide),_,_,rfl,rfl,_,rfl,?_⟩
   exact q _ _ _ _ (Int.emod_nonneg _ (by lia)) (Int.emod_lt_of_pos _ m0) (Int.ediv_nonneg a0 (by lia)) b0 b1 (fun c o e n=>by rw[aH n,aH (aG e ht)];exact e) aB
  ·refine⟨_,rfl,p,_,_,_,rfl,rfl,SqL.of hp,g1,_,_,rfl,rfl,.inl ⟨by lia,by lia⟩,_,_,rfl,rfl,_,_,rfl,rfl,(by show (0:Int)<2147483647;decide),?_⟩
   refine⟨_,rfl,p,_,1,1,rfl,rfl,hp,cV (j:=1) (by show 1<2;decide),?_⟩
   have c0:0≤(b*48271+12345) % 2147483647:=Int.emod_nonneg _ (by decide)
   have c1:(b*48271+12345) % 2147483647<2147483647:=Int.emod_lt_of_pos _ (by decide)
   refine⟨_,rfl,p,_,_,_,rfl,rfl,SqL.of aB,aM (j:=1) rfl,_,rfl,p,_,_,_,rfl,rfl,SqL.of aB,aM (j:=1) rfl,_,_,rfl,rfl,.inl ⟨by lia,by lia⟩,_,_,rfl,rfl,(by show (0:Int)<2147483629;decide),_,_,rfl,rfl,⟨by decide,by decide⟩,_,rfl,_,_,rfl,rfl,m0,?_⟩
   exact q _ _ _ _ (Int.emod_nonneg _ (by lia)) (Int.emod_lt_of_pos _ m0) a0 c0 (by lia) aO.upd aB
theorem uL:∀ {xs:List Nat} {k:Nat},(NV xs).eraseIdx k=NV (xs.eraseIdx k)
 |[],_=>rfl
 |x::xs,0=>rfl
 |x::xs,k+1=>congrArg (V.int (x:Nat)::·) (uL (xs:=xs) (k:=k))
theorem oM:∀ {ls:List Nat} {k:Nat} (hk:k<ls.length),(ls[k]::ls.eraseIdx k).Perm ls
 |x::xs,0,_=>List.Perm.refl _
 |x::xs,k+1,h=>(List.Perm.swap x _ _).trans ((oM (ls:=xs) (k:=k) (by simpa using h)).cons x)
theorem aB7{xs ls:List Nat}{k v:Nat}{r:List Nat}(p:(xs++ls).Perm r)(h:ls[k]?=some v):(xs++[v]++ls.eraseIdx k).Perm r:=by
 refine List.Perm.trans ?_ p
 rw[List.append_assoc]
 refine List.Perm.append_left _ ?_
 obtain⟨hk,e⟩:=List.getElem?_eq_some_iff.mp h
 subst e
 exact oM hk
theorem aEk:aW ["_law_pot_here"] ["_law_pot_here"] (aL zL):=⟨rfl,rfl,rfl,by decide +kernel,rfl,by decide +kernel,by decide +kernel⟩
def uM:Sp:=fun vs H Q _=>∃ (p:Addr),vs=[.ref p]∧aY H p∧∀ (d:Nat) (H':Hp),d<10 ^ 18→aO p H H'→aY H' p→Q (.int d) H'
theorem aDp{f:Addr}{fd:FuncData}(F:Fun K "_law_beat" "_law_beat" zL f fd)(D:Cal P w K mg base CX0 1 "_law_take" ["_law_pot_here","_law_many"] eL):FnOk P w K mg base CX0 2 f fd ["_law_pot_here"] uM:=by
 refine F.ok aEk (fun vs H Q E h=>?_) (fun cdv A outer s H vs Q E hr h=>?_)
 ·obtain⟨p,rfl,_⟩:=h
  rfl
 ·obtain⟨p,rfl,hp,q⟩:=h
  refine⟨_,(aI (bA (aS aP (bY (aA (aN D hr aQ (aA (pv 0) (aA aJ aD))) (aA (aN D hr aQ (aA (pv 0) (aA (aV aAm aJ aJ) aD))) aD))) (aN D hr aQ (aA (pv 0) (aA aJ aD))) (fun _ _=>rfl)))),?_⟩
  refine⟨_,rfl,p,40,rfl,by decide,by decide,hp,fun d1 H1 hd1 s1 hp1=>⟨_,rfl,_,_,rfl,rfl,⟨by decide,by decide,by decide⟩,p,10 ^ 18,rfl,by decide,by decide,hp1,fun d2 H2 hd2 s2 hp2=>⟨by show 2≤sizeLine;decide,fun l hl=>?_⟩⟩⟩
  have sl:=aE (o:=.lst [.int (d1:Int),.int (d2:Int)]) hl
  refine⟨_,rfl,p,2,rfl,by decide,by decide,hp2.same sl,fun d3 H3 hd3 s3 hp3=>?_⟩
  have s4:=((s1.trans s2).trans (aO.of sl)).trans s3
  have hl3:=s3 _ _ (aB (H:=H2) (a:=l) (o:=.lst [.int (d1:Int),.int (d2:Int)])) (hp2.ne hl)
  rcases(show d3=0∨d3=1 by lia) with rfl|rfl
  ·exact⟨l,_,_,_,rfl,rfl,SqL.of hl3,aM (j:=0) rfl,q d1 H3 (by lia) s4 hp3⟩
  ·exact⟨l,_,_,_,rfl,rfl,SqL.of hl3,aM (j:=1) rfl,q d2 H3 hd2 s4 hp3⟩
end
end K12
namespace NetM
theorem Tree.zero{n k x:Nat}{ts:Ts}(Tr:Tree n (List.range n) k ts)(hk:k≤n)(h:k≤x):deg ts (ci x)=0:=by
 unfold deg
 rw[List.filter_eq_nil_iff.mpr];· rfl
 intro t ht z
 obtain⟨a,b,ha,hb,rfl⟩:=Tr.ends t ht
 rw[List.take_range,Nat.min_eq_left hk] at ha
 have:=List.mem_range.mp ha
 have:=Int.ofNat.inj (of_decide_eq_true z)
 lia
def ren(xs:List Nat)(t:Int×Int):Int×Int:=(ci (xs.getD t.1.toNat 0),ci (xs.getD t.2.toNat 0))
theorem lH{n:Nat}{xs:List Nat}(pm:xs.Perm (List.range n)){a b:Nat}(ha:a<n)(hb:b<n)(e:xs.getD a 0=xs.getD b 0):a=b:=by
 have xl:xs.length=n:=by have:=pm.length_eq;rwa [List.length_range] at this
 rw[cC (by lia),cC (by lia)] at e
 exact gW (pm.nodup_iff.mpr List.nodup_range) (by lia) (by lia) e
theorem aCB{n:Nat}{xs:List Nat}(pm:xs.Perm (List.range n)){a:Nat}(ha:a<n):xs.getD a 0<n:=by
 have xl:xs.length=n:=by have:=pm.length_eq;rwa [List.length_range] at this
 exact List.mem_range.mp (pm.mem_iff.mp (iX (by lia)))
theorem aBm{n:Nat}{xs:List Nat}(pm:xs.Perm (List.range n)){b:Nat}(hb:b<n):∃a,a<n∧xs.getD a 0=b:=by
 have xl:xs.length=n:=by have:=pm.length_eq;rwa [List.length_range] at this
 obtain⟨a,ha,e⟩:=List.mem_iff_getElem.mp (pm.mem_iff.mpr (List.mem_range.mpr hb))
 exact⟨a,by lia,by rw[cC ha];exact e⟩
theorem aE2{xs:List Nat}{ts:Ts}{a b:Nat}(h:T ts a b):T (ts.map (ren xs)) (xs.getD a 0) (xs.getD b 0):=List.mem_map.mpr ⟨_,h,rfl⟩
theorem uN{xs:List Nat}{ts:Ts}{a:Nat}:∀ {k b:Nat},Walk ts k a b→Walk (ts.map (ren xs)) k (xs.getD a 0) (xs.getD b 0)
 |0,b,h=>congrArg (fun x=>xs.getD x 0) (show a=b from h)
 |k+1,b,⟨c,w,t⟩=>⟨_,uN w,aE2 t⟩
theorem dS{α β:Type}{f:α→β}{c:β→Bool}{d:α→Bool}:∀ {l:List α},(∀x∈l,c (f x)=d x)→((l.map f).filter c).length=(l.filter d).length
 |[],_=>rfl
 |x::l,h=>by
  rw[List.map_cons,List.filter_cons,List.filter_cons,h x List.mem_cons_self]
  have ih:=dS (l:=l) fun y hy=>h y (List.mem_cons_of_mem _ hy)
  split <;> simp[ih]
theorem Fine.ren{n:Nat}{ts:Ts}{xs:List Nat}(F:Fine n ts)(pm:xs.Perm (List.range n)):Fine n (ts.map (ren xs)):=by
 have nat:∀t∈ts,∃a b:Nat,a<n∧b<n∧t=(ci a,ci b):=fun t ht=>by
  obtain⟨⟨a0,a1⟩,⟨b0,b1⟩⟩:=F.rg t ht
  exact⟨t.1.toNat,t.2.toNat,by lia,by lia,Prod.ext (Int.toNat_of_nonneg a0).symm (Int.toNat_of_nonneg b0).symm⟩
 have c1:∀h:Int,(∃a,a<n∧h=ci (xs.getD a 0))∨∀a,a<n→ci (xs.getD a 0)≠h:=fun h=>by
  by_cases z:∃a,a<n∧h=ci (xs.getD a 0)
  ·exact .inl z
  ·exact .inr fun a ha e=>z ⟨a,ha,e.symm⟩
 have cf:∀h:Int,((ts.map (NetM.ren xs)).filter fun t=>decide (t.1=h)).length=((ts.map (NetM.ren xs)).filter fun t=>decide (t.2=h)).length∧((ts.map (NetM.ren xs)).filter fun t=>decide (t.1=h)).length≤8:=fun h=>by
  rcases c1 h with ⟨a,ha,rfl⟩|no
  ·rw[dS (d:=fun t=>decide (t.1=ci a)) fun t ht=>?_,dS (d:=fun t=>decide (t.2=ci a)) fun t ht=>?_]
   ·exact⟨F.bal _,F.most _⟩
   ·obtain⟨x,y,hx,hy,rfl⟩:=nat t ht
    exact decide_eq_decide.mpr ⟨fun e=>congrArg ci (lH pm hy ha (Int.ofNat.inj e)),fun e=>by have:=Int.ofNat.inj e;show ci (xs.getD y 0)=_;rw[this]⟩
   ·obtain⟨x,y,hx,hy,rfl⟩:=nat t ht
    exact decide_eq_decide.mpr ⟨fun e=>congrArg ci (lH pm hx ha (Int.ofNat.inj e)),fun e=>by have:=Int.ofNat.inj e;show ci (xs.getD x 0)=_;rw[this]⟩
  ·rw[dS (d:=fun _=>false) fun t ht=>?_,dS (d:=fun _=>false) fun t ht=>?_]
   ·have z:ts.filter (fun _=>false)=[]:=List.filter_eq_nil_iff.mpr fun x _ q=>nomatch q
    rw[z];exact⟨rfl,Nat.zero_le _⟩
   ·obtain⟨x,y,hx,hy,rfl⟩:=nat t ht
    exact decide_eq_false (no y hy)
   ·obtain⟨x,y,hx,hy,rfl⟩:=nat t ht
    exact decide_eq_false (no x hx)
 refine⟨F.n1,F.n2,?_,fun t ht=>?_,fun t ht=>?_,fun h=>(cf h).1,fun h=>(cf h).2,fun a b ha hb=>?_⟩
 ·refine(List.pairwise_map.mpr (F.nd.imp_of_mem fun {t u} ht hu ne e=>ne ?_))
  obtain⟨x,y,hx,hy,rfl⟩:=nat t ht
  obtain⟨x',y',hx',hy',rfl⟩:=nat u hu
  have e1:x=x':=lH pm hx hx' (Int.ofNat.inj (congrArg Prod.fst e))
  have e2:y=y':=lH pm hy hy' (Int.ofNat.inj (congrArg Prod.snd e))
  rw[e1,e2]
 ·obtain⟨u,hu,rfl⟩:=List.mem_map.mp ht
  obtain⟨x,y,hx,hy,rfl⟩:=nat u hu
  have:=aCB pm hx
  have:=aCB pm hy
  exact⟨⟨by show (0:Int)≤ci _;lia,by show ci (xs.getD x 0)<_;lia⟩,⟨by show (0:Int)≤ci _;lia,by show ci (xs.getD y 0)<_;lia⟩⟩
 ·obtain⟨u,hu,rfl⟩:=List.mem_map.mp ht
  have:=F.ne u hu
  obtain⟨x,y,hx,hy,rfl⟩:=nat u hu
  intro e
  exact this (congrArg ci (lH pm hx hy (Int.ofNat.inj e)))
 ·obtain⟨a',ha',rfl⟩:=aBm pm ha
  obtain⟨b',hb',rfl⟩:=aBm pm hb
  obtain⟨k,w⟩:=F.con a' b' ha' hb'
  exact⟨k,uN w⟩
theorem aBn{α β:Type}{f g:α→List β}:∀ {xs:List α},(xs.flatMap fun x=>f x++g x).Perm (xs.flatMap f++xs.flatMap g)
 |[]=>.refl _
 |x::xs=>by
  rw[List.flatMap_cons,List.flatMap_cons,List.flatMap_cons,List.append_assoc,List.append_assoc]
  refine List.Perm.append_left _ (((aBn (xs:=xs)).append_left _).trans ?_)
  rw[← List.append_assoc,← List.append_assoc]
  exact List.Perm.append_right _ List.perm_append_comm
theorem pP{α β γ:Type}{f:α→β→List γ}{ys:List β}:∀ {xs:List α},(xs.flatMap fun x=>ys.flatMap (f x)).Perm (ys.flatMap fun y=>xs.flatMap fun x=>f x y)
 |[]=>by
  rw[List.flatMap_nil,List.flatMap_eq_nil_iff.mpr fun y _=>List.flatMap_nil]
 |x::xs=>by
  rw[List.flatMap_cons]
  refine((pP (xs:=xs)).append_left _).trans ?_
  refine(aBn (xs:=ys)).symm.trans (List.Perm.of_eq ?_)
  exact congrArg (fun g=>ys.flatMap g) (funext fun y=>(List.flatMap_cons (f:=fun x=>f x y)).symm)
theorem qU{α β:Type}{c:α→Bool}{f:α→β}:∀ {l:List α},(l.filter c).map f=l.flatMap fun x=>if c x=true then [f x] else []
 |[]=>rfl
 |x::l=>by
  rw[List.filter_cons,List.flatMap_cons,← qU (l:=l)]
  by_cases h:c x=true
  ·rw[if_pos h,if_pos h];rfl
  ·rw[if_neg h,if_neg h];rfl
def bxH(ns:List Nat)(i h:Nat):List (Nat×Nat):=(List.range i).flatMap fun j=>if h / pr (ns.take j) % ns.getD j 0+1<ns.getD j 0 then [(h,h+pr (ns.take j))] else []
theorem aB8{m:Nat}{ns:List Nat}:((List.range m).flatMap (bxH ns ns.length)).Perm ((List.range ns.length).flatMap fun j=>bxr m (pr (ns.take j)) (ns.getD j 0)):=by
 refine(pP (f:=fun h j=>if h / pr (ns.take j) % ns.getD j 0+1<ns.getD j 0 then [(h,h+pr (ns.take j))] else [])).trans (List.Perm.of_eq ?_)
 refine congrArg (fun f=>(List.range ns.length).flatMap f) (funext fun j=>?_)
 unfold bxr
 rw[qU]
 refine congrArg (fun f=>(List.range m).flatMap f) (funext fun h=>?_)
 simp
def wdF(b i h:Nat):List (Nat×Nat):=(List.range (b-h / b ^ i % b-1)).map fun k=>(h,h+(k+1)*b ^ i)
def wdH(b i h:Nat):List (Nat×Nat):=(List.range i).flatMap fun j=>wdF b j h
theorem aB9{f b:Nat}:((List.range (b ^ f)).flatMap (wdH b f)).Perm (lC f b):=pP (f:=fun h j=>wdF b j h)
theorem jE{ps qs:Ts}(h:ps.Perm qs):(dbl ps).Perm (dbl qs):=by
 unfold dbl
 exact List.Perm.flatMap_right _ h
theorem aBo{n:Nat}(n1:3≤n)(n2:n≤32):Fine n (dbl (cyc2 (List.range n))):=(wA n1 n2 (List.Perm.refl _)).perm (jE iY)
end NetM
namespace K12
open PySem L2 NetM
theorem iR{α:Type}{x:α}:∀ {k:Nat},(List.replicate k [x]).flatten=List.replicate k x
 |0=>rfl
 |k+1=>by rw[List.replicate_succ,List.flatten_cons,iR,List.replicate_succ];rfl
theorem rK{A B:Prop}{b:Bool}(hb:b=true)(h:A):if b=true then A else B:=by rw[if_pos hb];exact h
theorem oN{A B:Prop}{b:Bool}(hb:b=false)(h:B):if b=true then A else B:=by rw[if_neg (by rw[hb];decide)];exact h
def iA(H:Hp)(D:Addr)(ts:Ts)(H2:Hp):Prop:=Same H H2∧∃zs:Zs,H2 D=some (.lst (zr zs))∧PO H2 zs∧zp zs=ts
theorem aDq{lo:Int}{n:Nat}{D:Addr}{g:TG}{tt:TT}{te:TE}{fin:Hp→Prop}{σB:St}{H0:Hp}(c:Nat→Bool)(shape:St→Prop)(hD:H0 D=none)(hn:n≤1000)(h0:shape σB)(hs:∀x σ H (Kt:V→St→Hp→Prop) (Kf:St→Hp→Prop),x<n→shape σ→Same H0 H→(∀σ2 H2,shape σ2→Same H H2→c x=true→Kt (.int (lo+(x:Nat))) σ2 H2)→(∀σ2 H2,shape σ2→Same H H2→c x=false→Kf σ2 H2)→
   g (.int (lo+(x:Nat))) σ H fun σ2 H2=>tt σ2 H2 fun b H3=>if b=true then te σ2 H3 fun v H4=>Kt v σ2 H4 else Kf σ2 H3)(hd:∀H,Same H0 H→H D=some (.lst (((List.range n).filter c).map fun (x:Nat)=>V.int (lo+(x:Int))))→fin H):dP (Itr lo n) g tt te D fin σB (upd H0 D (.lst [])):=by
 refine dZ (fun i ys σ H=>shape σ∧Same H0 H∧H D=some (.lst ys)∧ys=((List.range i).filter c).map fun (x:Nat)=>V.int (lo+(x:Int))) ⟨h0,aE hD,aB,rfl⟩ ?_ ?_
 ·rintro i ys σ H Kt Kf hi ⟨sh,sm,hDl,rfl⟩ kt kf
  refine hs i σ H Kt Kf hi sh sm (fun σ2 H2 sh2 s2 e=>?_) (fun σ2 H2 sh2 s2 e=>?_)
  ·refine kt _ _ _ (s2 _ _ hDl) ?_ ⟨sh2,bE (sm.trans s2) hD,aB,?_⟩
   ·rw[List.length_map]
    refine Nat.lt_of_le_of_lt (List.length_filter_le _ _) ?_
    rw[List.length_range]
    exact Nat.lt_of_lt_of_le (show i<1000 by lia) (by decide)
   ·rw[List.range_succ,List.filter_append,List.map_append]
    simp[List.filter_cons,e]
  ·refine kf _ _ ⟨sh2,sm.trans s2,s2 _ _ hDl,?_⟩
   rw[List.range_succ,List.filter_append]
   simp[List.filter_cons,e]
 ·rintro ys σ H ⟨_,sm,hDl,rfl⟩
  exact hd H sm hDl
theorem jP:∀ {xs:List Nat} {j x:Nat},(NV xs).set j (.int (x:Int))=NV (xs.set j x)
 |[],_,_=>rfl
 |y::ys,0,x=>rfl
 |y::ys,j+1,x=>congrArg (V.int (y:Int)::·) (jP (xs:=ys) (j:=j) (x:=x))
theorem eU{xs:List Nat}{j:Nat}(h:j<xs.length):(NV xs)[j]?=some (.int ((xs.getD j 0:Nat):Int)):=by
 unfold NV
 rw[List.getElem?_map,List.getD_eq_getElem?_getD,List.getElem?_eq_getElem h];rfl
def degL(n:Nat)(ps:Ts):List Nat:=(List.range n).map fun (h:Nat)=>deg (dbl ps) (ci h)
theorem eM{n:Nat}{ps:Ts}:(degL n ps).length=n:=by unfold degL;rw[List.length_map,List.length_range]
theorem gE{n:Nat}{ps:Ts}{h:Nat}(hh:h<n):(degL n ps).getD h 0=deg (dbl ps) (ci h):=by
 unfold degL
 rw[List.getD_eq_getElem?_getD,List.getElem?_map,List.getElem?_range hh];rfl
theorem uO{n:Nat}{ps:Ts}{a b:Nat}(ha:a<n)(hb:b<n)(hab:a≠b):((degL n ps).set a (deg (dbl ps) (ci a)+1)).set b (deg (dbl ps) (ci b)+1)=degL n (ps++[(ci a,ci b)]):=by
 have ne:∀x y:Nat,ci x=ci y→x=y:=fun x y e=>Int.ofNat.inj e
 refine List.ext_getElem? fun i=>?_
 by_cases hi:i<n
 ·have g:∀qs:Ts,(degL n qs)[i]?=some (deg (dbl qs) (ci i)):=fun qs=>by unfold degL;rw[List.getElem?_map,List.getElem?_range hi];rfl
  rw[g,xM,List.getElem?_set,List.getElem?_set,g,List.length_set,eM]
  by_cases c1:b=i
  ·subst c1
   rw[if_pos rfl,if_pos hb,if_neg (fun z=>hab (ne _ _ z)),if_pos rfl,Nat.zero_add]
  ·rw[if_neg c1,if_neg (fun z=>c1 (ne _ _ z))]
   by_cases c2:a=i
   ·subst c2
    rw[if_pos rfl,if_pos ha,if_pos rfl]
   ·rw[if_neg c2,if_neg (fun z=>c2 (ne _ _ z))];rfl
 ·rw[List.getElem?_eq_none (by rw[List.length_set,List.length_set,eM];lia),List.getElem?_eq_none (by rw[eM];lia)]
theorem aCa{n:Nat}:List.replicate n (V.int 0)=NV (degL n []):=by
 refine List.ext_getElem? fun i=>?_
 unfold NV degL
 rw[List.map_map,List.getElem?_replicate,List.getElem?_map]
 by_cases hi:i<n
 ·rw[if_pos hi,List.getElem?_range hi];rfl
 ·rw[if_neg hi,List.getElem?_eq_none (by rw[List.length_range];lia)];rfl
theorem uP{K:PySem.W.Frag}{a D:Addr}{xs:List V}{g:TG}{tt:TT}{te:TE}{fin:Hp→Prop}{σB:St}{H0:Hp}(Pv:Nat→List V→St→Hp→Prop)(h0:Pv 0 [] σB H0)(hl:∀i ys σ H,i≤xs.length→Pv i ys σ H→SqT K H a xs)(hs:∀i x ys σ H (Kt:V→St→Hp→Prop) (Kf:St→Hp→Prop),xs[i]?=some x→Pv i ys σ H→
   (∀v σ2 H4,H4 D=some (.lst ys)→ys.length<sizeLine→Pv (i+1) (ys++[v]) σ2 (upd H4 D (.lst (ys++[v])))→Kt v σ2 H4)→(∀σ2 H3,Pv (i+1) ys σ2 H3→Kf σ2 H3)→
   g x σ H fun σ2 H2=>tt σ2 H2 fun b H3=>if b=true then te σ2 H3 fun v H4=>Kt v σ2 H4 else Kf σ2 H3)(hd:∀ys σ H,Pv xs.length ys σ H→fin H):dP (Itt K a) g tt te D fin σB H0:=by
 refine⟨fun i m σ H=>m=xs.length-i∧i≤xs.length∧∃ys,Pv i ys σ H,⟨xs.length,by simp,Nat.zero_le _,[],h0⟩,?_⟩
 rintro i m σ H ⟨rfl,hi,ys,p⟩
 have q:=hl i ys σ H hi p
 by_cases hlt:i<xs.length
 ·refine .inr ⟨⟨xs,xs[i],q,by simp[hlt]⟩,?_⟩
  rintro x H' ⟨rfl,y⟩
  exact hs i x ys σ _ (fun v σ2 H4=>∃ys,H4 D=some (.lst ys)∧ys.length<sizeLine∧∃m',m'<xs.length-i∧m'=xs.length-(i+1)∧i+1≤xs.length∧∃ys',Pv (i+1) ys' σ2 (upd H4 D (.lst (ys++[v]))))
   (fun σ2 H3=>∃m',m'<xs.length-i∧m'=xs.length-(i+1)∧i+1≤xs.length∧∃ys',Pv (i+1) ys' σ2 H3) (y xs q) p
   (fun v σ2 H4 z1 z2 z3=>⟨ys,z1,z2,_,by lia,rfl,hlt,_,z3⟩) (fun σ2 H3 z=>⟨_,by lia,rfl,hlt,_,z⟩)
 ·have e:i=xs.length:=by lia
  subst e
  exact .inl ⟨⟨xs,q,Nat.le_refl _⟩,hd ys σ H p⟩
theorem aDr{K:PySem.W.Frag}{a D:Addr}{zs:Zs}{g:TG}{tt:TT}{te:TE}{fin:Hp→Prop}{σB:St}{H0:Hp}(c:Int×Int→Bool)(shape:St→Prop)(ha:H0 a=some (.lst (zr zs)))(hD:H0 D=none)(hn:zs.length≤1000)(h0:shape σB)(hs:∀z σ H (Kt:V→St→Hp→Prop) (Kf:St→Hp→Prop),z∈zs→shape σ→Same H0 H→(∀σ2 H2,shape σ2→Same H H2→c z.2=true→Kt (.ref z.1) σ2 H2)→(∀σ2 H2,shape σ2→Same H H2→c z.2=false→Kf σ2 H2)→
   g (.ref z.1) σ H fun σ2 H2=>tt σ2 H2 fun b H3=>if b=true then te σ2 H3 fun v H4=>Kt v σ2 H4 else Kf σ2 H3)(hd:∀H,Same H0 H→H D=some (.lst (zr (zs.filter fun z=>c z.2)))→fin H):dP (Itl K a) g tt te D fin σB (upd H0 D (.lst [])):=by
 refine dI (xs:=zr zs) (fun i ys σ H=>shape σ∧Same H0 H∧H D=some (.lst ys)∧ys=zr ((zs.take i).filter fun z=>c z.2)) ⟨h0,aE hD,aB,rfl⟩ (fun i ys σ H _ z=>SqL.of (z.2.1 _ _ ha)) ?_ ?_
 ·rintro i x ys σ H Kt Kf hx ⟨sh,sm,hDl,rfl⟩ kt kf
  obtain⟨z,hz,rfl⟩:=lE hx
  have hi:i<zs.length:=(List.getElem?_eq_some_iff.mp hz).1
  have tk:zs.take (i+1)=zs.take i++[z]:=by rw[List.take_add_one,hz];rfl
  refine hs z σ H Kt Kf (List.mem_of_getElem? hz) sh sm (fun σ2 H2 sh2 s2 e=>?_) (fun σ2 H2 sh2 s2 e=>?_)
  ·refine kt _ _ _ (s2 _ _ hDl) ?_ ⟨sh2,bE (sm.trans s2) hD,aB,?_⟩
   ·rw[cL]
    exact Nat.lt_of_le_of_lt (List.length_filter_le _ _) (Nat.lt_of_le_of_lt (List.length_take_le _ _) (Nat.lt_of_lt_of_le (show i<1000 by lia) (by decide)))
   ·rw[tk,List.filter_append,dL]
    simp[List.filter_cons,e,zr]
  ·refine kf _ _ ⟨sh2,sm.trans s2,s2 _ _ hDl,?_⟩
   rw[tk,List.filter_append]
   simp[List.filter_cons,e]
 ·rintro ys σ H ⟨_,sm,hDl,rfl⟩
  rw[cL,List.take_length] at hDl
  exact hd H sm hDl
theorem aBp{zs:Zs}{c:Int×Int→Bool}:zp (zs.filter fun z=>c z.2)=(zp zs).filter c:=by
 unfold zp
 rw[List.filter_map];rfl
theorem rB{zs:Zs}{c:Int×Int→Bool}:(zr (zs.filter fun z=>c z.2)).length=((zp zs).filter c).length:=by rw[cL,← bH,aBp]
section
variable {K:PySem.W.Frag}
theorem rL{H:Hp}{zs:Zs}(po:PO H zs):zs.length=(zp zs).length∧∀i,i<(zp zs).length→SqT K H ((zs.map (·.1)).getD i 0) [.int ((zp zs).getD i (0,0)).1,.int ((zp zs).getD i (0,0)).2]:=by
 refine⟨bH.symm,fun i hi=>?_⟩
 rw[bH] at hi
 rw[tZ hi,xH hi]
 exact SqT.of (po _ (List.getElem_mem hi))
end
theorem cX{α:Type}{f:Nat→List α}{n:Nat}:(List.range (n+1)).flatMap f=(List.range n).flatMap f++f n:=by
 rw[List.range_succ,List.flatMap_append];simp
theorem mF:∀ {ns:List Nat} {x:Nat},pr (ns++[x])=pr ns*x
 |[],x=>by show x*1=1*x;lia
 |n::ns,x=>by show n*pr (ns++[x])=n*pr ns*x;rw[mF,Nat.mul_assoc]
theorem aBq{m:Nat}:∀ {ns:List Nat} {st:Nat},bx m st ns=(List.range ns.length).flatMap fun j=>bxr m (st*pr (ns.take j)) (ns.getD j 0)
 |[],st=>rfl
 |n::ns,st=>by
  show bxr m st n++bx m (st*n) ns=_
  rw[List.length_cons,List.range_succ_eq_map,List.flatMap_cons,aBq (ns:=ns)]
  congr 1
  ·show bxr m st n=bxr m (st*1) n
   rw[Nat.mul_one]
  ·rw[List.flatMap_map]
   congr 1
   funext j
   show _=bxr m (st*(n*pr (ns.take j))) (ns.getD j 0)
   rw[Nat.mul_assoc]
theorem jJ{α:Type}{g:Nat→List α}{M:Nat}(hg:∀x,(g x).length≤M):∀ {m:Nat},((List.range m).flatMap g).length≤m*M
 |0=>Nat.zero_le _
 |m+1=>by rw[cX,List.length_append,Nat.succ_mul];have:=hg m;have:=jJ hg (m:=m);lia
theorem fQ:∀ {ns:List Nat} {i:Nat},(∀x∈ns,1≤x)→pr (ns.take i)≤pr ns
 |[],i,_=>by rw[List.take_nil];exact Nat.le_refl _
 |n::ns,0,h=>by
  show 1≤n*pr ns
  have:∀ {l:List Nat},(∀x∈l,1≤x)→1≤pr l:=fun {l}=>by
   induction l with
   |nil=>intro _;exact Nat.le_refl _
   |cons x l ih=>intro hl;exact Nat.mul_pos (hl x List.mem_cons_self) (ih fun y hy=>hl y (List.mem_cons_of_mem _ hy))
  exact this (l:=n::ns) h
 |n::ns,i+1,h=>by
  show n*pr (ns.take i)≤n*pr ns
  exact Nat.mul_le_mul_left n (fQ fun x hx=>h x (List.mem_cons_of_mem _ hx))
theorem iA.ext{H H2 H3:Hp}{D:Addr}{ts us:Ts}{zs2 zs:Zs}(hD:H D=none)(sm:Same H H2)(h1:H2 D=some (.lst (zr zs2)))(po2:PO H2 zs2)(ez:zp zs2=ts)(s3:Same H2 H3)(po:PO H3 zs)(e:zp zs=us):iA H D (ts++us) (upd H3 D (.lst (zr zs2++zr zs))):=
 ⟨bE (sm.trans s3) hD,zs2++zs,by rw[aB,dL],PO.putL (xs:=zr zs2) ((po2.same s3).append po) (s3 _ _ h1),by rw[dM,ez,e]⟩
theorem aBr{xs:List V}{k:Nat}:cutV xs none (some (k:Int))=xs.take k:=by
 have h1:HT.sIx xs.length 0 none=0:=rfl
 have h2:HT.sIx xs.length xs.length (some (k:Int))=min k xs.length:=by
  unfold HT.sIx
  simp
  try lia
 unfold cutV
 rw[h1,h2,List.drop_zero,Nat.sub_zero,List.take_eq_take_iff]
 simp
 try lia
theorem uQ{xs:List V}{k:Nat}:cutV xs (some (k:Int)) none=xs.drop k:=by
 have h1:HT.sIx xs.length 0 (some (k:Int))=min k xs.length:=by
  unfold HT.sIx
  simp
  try lia
 have h2:HT.sIx xs.length xs.length none=xs.length:=rfl
 unfold cutV
 rw[h1,h2]
 by_cases c:k≤xs.length
 ·rw[Nat.min_eq_left c]
  exact List.take_of_length_le (by rw[List.length_drop];exact Nat.le_refl _)
 ·rw[Nat.min_eq_right (by lia),List.drop_of_length_le (Nat.le_refl _),List.drop_of_length_le (by lia),List.take_nil]
theorem aDs{β:Type}{K:PySem.W.Frag}{a D:Addr}{g:TG}{tt:TT}{te:TE}{fin:Hp→Prop}{σB:St}{H0:Hp}(ms:List β)(e G:β→V)(shape:St→Prop)(ha:H0 a=some (.lst (ms.map e)))(hD:H0 D=none)(hn:ms.length≤1000)(h0:shape σB)(hs:∀m σ H (R:V→St→Hp→Prop) (Kf:St→Hp→Prop),m∈ms→shape σ→Same H0 H→(∀σ2 H2,shape σ2→Same H H2→R (G m) σ2 H2)→
   g (e m) σ H fun σ2 H2=>tt σ2 H2 fun b H3=>if b=true then te σ2 H3 fun v H4=>R v σ2 H4 else Kf σ2 H3)(hd:∀H,Same H0 H→H D=some (.lst (ms.map G))→fin H):dP (Itl K a) g tt te D fin σB (upd H0 D (.lst [])):=by
 refine dI (xs:=ms.map e) (fun i ys σ H=>shape σ∧Same H0 H∧H D=some (.lst ys)∧ys=(ms.take i).map G) ⟨h0,aE hD,aB,rfl⟩ (fun i ys σ H _ z=>SqL.of (z.2.1 _ _ ha)) ?_ ?_
 ·rintro i x ys σ H Kt Kf hx ⟨sh,sm,hDl,rfl⟩ kt kf
  rw[List.getElem?_map] at hx
  cases hz:ms[i]? with
  |none=>rw[hz] at hx;cases hx
  |some m=>
   rw[hz] at hx
   obtain rfl:e m=x:=Option.some.inj hx
   refine hs m σ H Kt Kf (List.mem_of_getElem? hz) sh sm (fun σ2 H2 sh2 s2=>?_)
   refine kt _ _ _ (s2 _ _ hDl) ?_ ⟨sh2,bE (sm.trans s2) hD,aB,?_⟩
   ·rw[List.length_map]
    exact Nat.lt_of_le_of_lt (List.length_take_le' _ _) (Nat.lt_of_le_of_lt hn (by decide))
   ·rw[List.take_add_one,hz,Option.toList_some,List.map_append];rfl
 ·rintro ys σ H ⟨_,sm,hDl,rfl⟩
  rw[List.length_map,List.take_length] at hDl
  exact hd H sm hDl
end K12
namespace K12
open PySem L2 NetM
abbrev zN:Stmt:=top 35
abbrev zO:Stmt:=top 38
theorem aBs:(["_law_k","_law_many"]:List Str).Nodup:=by decide +kernel
theorem nI:(["_law_house","_law_degrees"]:List Str).Nodup:=by decide +kernel
section
variable {P:Program} {w:World} {K:PySem.W.Frag} {mg:Str→Option Value} {base:Heap}
theorem aEl:aW ["_law_many"] ["_law_many"] (aL zN):=⟨rfl,rfl,rfl,by decide +kernel,rfl,by decide +kernel,by decide +kernel⟩
def oO:Sp:=fun vs H Q _=>∃n:Nat,vs=[.int n]∧2≤n∧n≤32∧∀ (r:Addr) (zs:Zs) (H':Hp),Same H H'→H r=none→H' r=some (.lst (zr zs))→PO H' zs→zp zs=cyc2 (List.range n)→Q (.ref r) H'
theorem aDt{f:Addr}{fd:FuncData}(F:Fun K "_law_ring" "_law_ring" zN f fd)(B:Bl mg):FnOk P w K mg base CX0 1 f fd ["_law_many"] oO:=by
 refine F.ok aEl (fun vs H Q E h=>?_) (fun cdv A outer s H vs Q E hr h=>?_)
 ·obtain⟨n,rfl,_⟩:=h
  rfl
 ·obtain⟨n,rfl,n1,n2,q⟩:=h
  refine'⟨_,(aI (bA ?c1)),?_⟩
  case c1=>
   refine' cG (g:=(bB 0)) (te:=(tTup (bJ (tVar 0) (bJ (tOp (rI (fun _ j=>0<j) fun i j=>.int (i % j)) (tOp (rI0 fun i j=>.int (i+j)) (tVar 0) (tC (.int 1))) (tVar 1)) tNil)))) (NB:=["_law_k","_law_many"]) (src:=[none,some 0]) (bP (by kernel_rfl)) rfl (bT rfl B.range (aA (pv 0) aD)) ?g ?t ?e
   case g=>exact fun cl C s₃ H₃ fp=>(aK (i:=0) aBs rfl (Or.inl rfl) (Or.inr rfl))
   case t=>exact fun cl C s₃ H₃ fp=>cQ
   case e=>exact fun cl C s₃ H₃ fp=>(bW (aA (pv 0) (aA (aV fK (aV cD (pv 0) aJ) (pv 1)) aD)))
  refine⟨_,rfl,(n:Int),rfl,by lia,by lia,fun T0 hT0=>?_⟩
  refine uA (lo:=0) (n:=n) (fun k=>(ci k,ci ((k+1) % n))) (fun σ=>∃x,σ=[x,some (.int n)]) hT0 (by lia) ⟨_,rfl⟩ ?_ ?_
  ·rintro k σ H2 R Kf hk ⟨x,rfl⟩ sm2 kt
   rw[Int.zero_add]
   exact⟨_,rfl,_,rfl,_,_,rfl,rfl,_,rfl,_,_,rfl,rfl,(by show (0:Int)<(n:Int);lia),by show 2≤sizeLine;decide,fun t ht=>kt _ _ ⟨_,rfl⟩ ht⟩
  intro zs H2 s2 hT2 po2 ez2 _
  refine q T0 zs H2 s2 hT0 hT2 po2 ?_
  rw[ez2]
  unfold cyc2
  rw[List.length_range]
  refine List.map_congr_left fun k hk=>?_
  have hk:=List.mem_range.mp hk
  have hk2:(k+1) % n<n:=Nat.mod_lt _ (by lia)
  rw[List.getD_eq_getElem?_getD,List.getElem?_range hk,List.getD_eq_getElem?_getD,List.getElem?_range hk2];rfl
theorem gX:aW ["_law_pot_here","_law_many","_law_more","_law_found","_law_degrees","_law_k","_law_some","_law_one","_law_other"] ["_law_pot_here","_law_many","_law_more"] (aL zO):=⟨rfl,rfl,rfl,by decide +kernel,rfl,by decide +kernel,by decide +kernel⟩
def uR:Sp:=fun vs H Q _=>∃ (p:Addr) (n m:Nat),vs=[.ref p,.int n,.int m]∧2≤n∧n≤32∧m≤64∧aY H p∧∀ (r:Addr) (zs:Zs) (H':Hp),aO p H H'→aY H' p→H r=none→H' r=some (.lst (zr zs))→PO H' zs→Fine n (dbl (zp zs))→Q (.ref r) H'
theorem aDu{f:Addr}{fd:FuncData}(F:Fun K "_law_some_pairs" "_law_some_pairs" zO f fd)(B:Bl mg)(D:Cal P w K mg base CX0 1 "_law_take" ["_law_pot_here","_law_many"] eL):FnOk P w K mg base CX0 2 f fd ["_law_pot_here","_law_many","_law_more"] uR:=by
 refine F.ok gX (fun vs H Q E h=>?_) (fun cdv A outer s H vs Q E hr h=>?_)
 ·obtain⟨p,n,m,rfl,_⟩:=h
  rfl
 ·obtain⟨p,n,m,rfl,n1,n2,m1,hp,q⟩:=h
  refine'⟨_,(aF (cK (bW (aA (bY aD) (aA (aV nQ (bY (aA aJ aD)) (pv 1)) aD))) (cM (n:=2) rfl (aR (aK (i:=3) gX.nd rfl (Or.inl rfl)) (aR (aK (i:=4) gX.nd rfl (Or.inr rfl)) cF))))
   (aF (cH PassesOwn.never rfl (kL rfl B.range (aA aJ (aA (pv 1) aD))) (aK (i:=5) gX.nd rfl (Or.inl rfl))
    (aF (dB (i:=6) (g:=(bB 0)) (tt:=(hW (tOp (rI0 fun i j=>.bl (decide (i<j))) (tOp (rIxL K) (tVar 1) (tVar 0)) (tC (.int 7))))) (te:=(tVar 0)) (NB:=["_law_house","_law_degrees"]) (src:=[none,some 4]) (bP (by kernel_rfl)) rfl (bT rfl B.range (aA (pv 5) aD)) ?g1 ?t1 ?e1 gX.nd rfl rfl rfl)
    (aF (aT (i:=7) gX.nd rfl (Or.inl rfl) (aS aP (pv 6) (aN D hr aQ (aA (pv 0) (aA (aU bC (by rfl) B.len PySem.boot_len (aA (pv 6) aD)) aD))) (fun _ _=>rfl)))
    (aF (bV (dA PySem.F.plainAttrs_list PySem.F.slot_list_append PySem.F.type_list_append cE (pv 3) (aA (bW (aA (pv 7) (aA (pv 5) aD))) aD)))
    (aI (cK (bW (aA (aV cD (aS aP (pv 4) (pv 7) (fun _ _=>rfl)) aJ) (aA aJ aD))) (cM (n:=2) rfl (aR (dH (pv 4) (pv 7) cN) (aR (dH (pv 4) (pv 5) cN) cF)))))))))
   (aF (cH PassesOwn.never rfl (bT rfl B.range (aA (pv 2) aD)) (aK (i:=5) gX.nd rfl (Or.inl rfl))
    (aF (rS (i:=7) (j:=8) rfl gX.nd rfl rfl (by decide) rfl rfl (aA (aN D hr aQ (aA (pv 0) (aA (pv 1) aD))) (aA (aN D hr aQ (aA (pv 0) (aA (pv 1) aD))) aD)) (by rfl))
    (aI (bZ (PW.pt (nL (aX rD (pv 7) (pv 8) (aZ _)) (lO (aX gJ (aU (pZ rfl) (by rfl) B.max PyProof.Rows.boot_max (aA (aS aP (pv 4) (pv 7) (fun _ _=>rfl)) (aA (aS aP (pv 4) (pv 8) (fun _ _=>rfl)) aD))) aJ (aZ _))))) (aI (bZ (PW.pt (nL (aX (iW hr.u) (bW (aA (pv 7) (aA (pv 8) aD))) (pv 3) rfl) (lO (aX (iW hr.u) (bW (aA (pv 8) (aA (pv 7) aD))) (pv 3) rfl)))) (aF (bV (dA PySem.F.plainAttrs_list PySem.F.slot_list_append PySem.F.type_list_append cE (pv 3) (aA (bW (aA (pv 7) (aA (pv 8) aD))) aD)))
      (aF (cK (aV cD (aS aP (pv 4) (pv 7) (fun _ _=>rfl)) aJ) (dH (pv 4) (pv 7) cN))
      (aI (cK (aV cD (aS aP (pv 4) (pv 8) (fun _ _=>rfl)) aJ) (dH (pv 4) (pv 8) cN))))) bS)) bS))))
   (aI (bA (pv 3)))))),?_⟩
  case g1=>exact fun cl C s₃ H₃ fp=>(aK (i:=0) nI rfl (Or.inl rfl) (Or.inr rfl))
  case t1=>exact fun cl C s₃ H₃ fp=>dF (aX gJ (aS aP (pv 1) (pv 0) (fun _ _=>rfl)) aJ (aZ _))
  case e1=>exact fun cl C s₃ H₃ fp=>(pv 0)
  refine⟨by show 0≤sizeLine;decide,fun Pr hPr=>⟨by show 1≤sizeLine;decide,fun L1 hL1=>⟨_,rfl,L1,_,_,rfl,rfl,aB,by lia,by lia,by rw[Int.toNat_natCast,List.length_singleton];exact Nat.le_trans (show 1*n≤32 by lia) (by decide),fun M hM=>?_⟩⟩⟩
  rw[Int.toNat_natCast,iR,aCa]
  refine⟨by show 2≤sizeLine;decide,fun T0 hT0=>⟨T0,_,rfl,SqT.of aB,rfl,_,_,rfl,_,_,rfl,rfl,?_⟩⟩
  have sP:=aE (o:=.lst []) hPr
  have s1:=sP.trans (aE (o:=.lst [.int 0]) hL1)
  have s3:=aE (o:=.tup [.ref Pr,.ref M]) hT0
  have s2:=(s1.trans (aE (o:=.lst (NV (degL n []))) hM)).trans s3
  have gP:=s3 _ _ (aE (o:=.lst (NV (degL n []))) hM _ _ (aE (o:=.lst [.int 0]) hL1 _ _ (aB (H:=H) (a:=Pr) (o:=.lst (zr [])))))
  have gM:=s3 _ _ (aB (H:=upd (upd H Pr (.lst [])) L1 (.lst [.int 0])) (a:=M) (o:=.lst (NV (degL n []))))
  have nPM:Pr≠M:=aG (aE hL1 _ _ aB) hM
  have hMH:H M=none:=s1.free hM
  have nPp:Pr≠p:=hp.ne hPr
  have nMp:M≠p:=hp.ne hMH
  generalize upd (upd (upd (upd H Pr _) L1 _) M _) T0 _=H0 at *
  refine⟨_,rfl,1,(n:Int),rfl,⟨by decide,by decide,by lia,by lia⟩,?_⟩
  rw[show ((n:Int)-1).toNat=n-1 by lia]
  refine cR (lo:=1) (n:=n-1) (fun i σ Hc=>∃zs:Zs,(∃a b c d,σ=[some (.ref p),some (.int n),some (.int m),some (.ref Pr),some (.ref M),a,b,c,d])∧aO p H Hc∧aY Hc p∧Hc Pr=some (.lst (zr zs))∧PO Hc zs∧Hc M=some (.lst (NV (degL n (zp zs))))∧Tree n (List.range n) (i+1) (dbl (zp zs))∧deg (dbl (zp zs)) (ci i)≤1)
   ⟨[],⟨none,none,none,none,rfl⟩,aO.of s2,hp.same s2,gP,PO.nil,gM,Tree.start (by rw[List.length_range];lia),Nat.zero_le _⟩ ?_ ?_
  ·rintro i σ Hc hi ⟨zs,⟨a,b,c,d',rfl⟩,sc,hpc,hPc,po,hMc,Tr,dg⟩
   have e1:(1:Int)+(i:Int)=((i+1:Nat):Int):=by lia
   rw[e1]
   have hzl:zs.length=i:=by have:=Tr.len;rw[mB,bH] at this;lia
   refine⟨_,rfl,((i+1:Nat):Int),rfl,by lia,by lia,fun D1 hD1=>?_⟩
   rw[show (((i+1:Nat):Int)).toNat=i+1 from rfl]
   refine aDq (lo:=0) (n:=i+1) (fun x=>decide (deg (dbl (zp zs)) (ci x)<7)) (fun σ=>∃a,σ=[a,some (.ref M)]) hD1 (by lia) ⟨_,rfl⟩ ?_ ?_
   ·rintro x σ H4 Kt Kf hx ⟨a',rfl⟩ sm4 kt kf
    rw[Int.zero_add] at kt ⊢
    have hx':x<(degL n (zp zs)).length:=by rw[eM];lia
    refine⟨_,rfl,_,rfl,M,_,_,_,rfl,rfl,SqL.of (sm4 _ _ hMc),aM (eU hx'),_,_,rfl,rfl,_,rfl,?_⟩
    have ed:=gE (ps:=zp zs) (show x<n by lia)
    refine ite2 (fun e=>?_) (fun e=>?_)
    ·exact⟨_,rfl,kt _ _ ⟨_,rfl⟩ (Same.refl _) (decide_eq_true (by have:=of_decide_eq_true e;lia))⟩
    ·exact kf _ _ ⟨_,rfl⟩ (Same.refl _) (decide_eq_false (fun z=>e (decide_eq_true (by lia))))
   ·intro H4 sm4 hD4
    have e0:((((List.range (i+1)).filter fun x=>decide (deg (dbl (zp zs)) (ci x)<7)).map fun (x:Nat)=>V.int (0+(x:Int))))=NV ((List.range (i+1)).filter fun x=>decide (deg (dbl (zp zs)) (ci x)<7)):=List.map_congr_left fun x _=>by rw[Int.zero_add]
    rw[e0] at hD4
    have ne:0<((List.range (i+1)).filter fun x=>decide (deg (dbl (zp zs)) (ci x)<7)).length:=List.length_pos_of_mem (List.mem_filter.mpr ⟨List.mem_range.mpr (Nat.lt_succ_self i),decide_eq_true (show deg (dbl (zp zs)) (ci i)<7 by lia)⟩)
    have le:((List.range (i+1)).filter fun x=>decide (deg (dbl (zp zs)) (ci x)<7)).length≤i+1:=Nat.le_trans (List.length_filter_le _ _) (by rw[List.length_range];exact Nat.le_refl _)
    generalize hfs:(List.range (i+1)).filter (fun x=>decide (deg (dbl (zp zs)) (ci x)<7))=fs at *
    have hp4:=hpc.same sm4
    refine⟨_,rfl,_,rfl,_,rfl,D1,_,rfl,.inl (SqL.of hD4),p,_,rfl,by rw[bD];exact ne,by rw[bD];lia,hp4,fun d H5 hd s5 hp5=>?_⟩
    rw[bD] at hd
    have nD1:D1≠p:=hpc.ne hD1
    have hv:fs[d]?=some fs[d]:=List.getElem?_eq_getElem hd
    refine⟨D1,_,_,_,rfl,rfl,SqL.of (s5 _ _ hD4 nD1),aM (eU hd),?_⟩
    have hsm:fs.getD d 0∈fs:=by rw[List.getD_eq_getElem?_getD,hv];exact List.getElem_mem _
    generalize fs.getD d 0=sv at *
    rw[← hfs] at hsm
    obtain⟨hs1,hs2⟩:=List.mem_filter.mp hsm
    have hsv:sv<i+1:=List.mem_range.mp hs1
    have hsd:deg (dbl (zp zs)) (ci sv)<7:=of_decide_eq_true hs2
    have hP5:=s5 _ _ (sm4 _ _ hPc) nPp
    have hM5:=s5 _ _ (sm4 _ _ hMc) nMp
    have po5:PO H5 zs:=(po.same sm4).sameE s5 hp4
    refine⟨_,rfl,.inl ⟨rfl,_,SqL.of hP5⟩,_,rfl,_,rfl,by show 2≤sizeLine;decide,fun t ht=>?_⟩
    have st:=aE (o:=prT (ci sv,ci (i+1))) ht
    refine⟨Pr,_,_,rfl,rfl,st _ _ hP5,by rw[cL,hzl];exact Nat.lt_of_lt_of_le (show i<33 by lia) (by decide),?_⟩
    have hM6:(upd (upd H5 t (prT (ci sv,ci (i+1)))) Pr (.lst (zr zs++[.ref t]))) M=some (.lst (NV (degL n (zp zs)))):=by rw[aH nPM.symm];exact st _ _ hM5
    have hsvn:sv<(degL n (zp zs)).length:=by rw[eM];lia
    refine⟨_,rfl,_,rfl,M,_,_,_,rfl,rfl,SqL.of hM6,aM (eU hsvn),_,_,rfl,rfl,by show 2≤sizeLine;decide,fun T hT=>?_⟩
    have hP6:(upd (upd H5 t (prT (ci sv,ci (i+1)))) Pr (.lst (zr zs++[.ref t]))) Pr=some (.lst (zr zs++[.ref t])):=aB
    have o6:∀b,b≠Pr→(upd (upd H5 t (prT (ci sv,ci (i+1)))) Pr (.lst (zr zs++[.ref t]))) b=(upd H5 t (prT (ci sv,ci (i+1)))) b:=fun b n=>aH n
    have po6:PO (upd (upd H5 t (prT (ci sv,ci (i+1)))) Pr (.lst (zr zs++[.ref t]))) (zs++[(t,(ci sv,ci (i+1)))]):=PO.putL (xs:=zr zs) ((po5.same st).append (PO.one aB)) (st _ _ hP5)
    generalize upd (upd H5 t (prT (ci sv,ci (i+1)))) Pr _=H6 at *
    have sT:=aE (o:=.tup [.int ((((degL n (zp zs)).getD sv 0:Nat):Int)+1),.int 1]) hT
    refine⟨T,_,rfl,SqT.of aB,rfl,_,_,rfl,?_⟩
    refine⟨_,rfl,_,rfl,M,_,(sv:Int),sv,rfl,rfl,sT _ _ hM6,cV (by rw[bD];exact hsvn),?_⟩
    have e2:(NV (degL n (zp zs))).set sv (V.int ((((degL n (zp zs)).getD sv 0:Nat):Int)+1))=NV ((degL n (zp zs)).set sv (deg (dbl (zp zs)) (ci sv)+1)):=by
     rw[gE (by lia)]
     exact jP (x:=deg (dbl (zp zs)) (ci sv)+1)
    have hkn:i+1<((degL n (zp zs)).set sv (deg (dbl (zp zs)) (ci sv)+1)).length:=by rw[List.length_set,eM];lia
    have z0:deg (dbl (zp zs)) (ci (i+1))=0:=Tr.zero (by lia) (Nat.le_refl _)
    generalize hH7:upd _ M _=H7
    have gM7:H7 M=some (.lst (NV ((degL n (zp zs)).set sv (deg (dbl (zp zs)) (ci sv)+1)))):=by rw[← hH7,aB];exact congrArg (fun l=>some (HO.lst l)) e2
    have o7:∀b,b≠M→∀o,H6 b=some o→H7 b=some o:=fun b n o e=>by rw[← hH7,aH n];exact sT _ _ e
    refine⟨_,_,rfl,_,rfl,_,rfl,M,_,((i+1:Nat):Int),i+1,rfl,rfl,gM7,cV (by rw[bD];exact hkn),rfl,?_⟩
    generalize hH8:upd H7 M _=H8
    have e3:(NV ((degL n (zp zs)).set sv (deg (dbl (zp zs)) (ci sv)+1))).set (i+1) (V.int 1)=NV (degL n (zp zs++[(ci sv,ci (i+1))])):=by
     rw[← uO (by lia) (by lia) (by lia),z0]
     exact jP (x:=1)
    have gM8:H8 M=some (.lst (NV (degL n (zp zs++[(ci sv,ci (i+1))])))):=by rw[← hH8,aB];exact congrArg (fun l=>some (HO.lst l)) e3
    have o8:∀b,b≠M→∀o,H6 b=some o→H8 b=some o:=fun b n o e=>by rw[← hH8,aH n];exact o7 b n o e
    have ez:zp (zs++[(t,(ci sv,ci (i+1)))])=zp zs++[(ci sv,ci (i+1))]:=by rw[dM];rfl
    refine⟨zs++[(t,(ci sv,ci (i+1)))],⟨_,_,_,_,rfl⟩,fun b o e n=>?_,?_,?_,fun z hz=>?_,by rw[ez];exact gM8,?_,?_⟩
    ·refine o8 _ (aG e hMH) _ ?_
     rw[o6 _ (aG e hPr)]
     exact st _ _ (s5 _ _ (sm4 _ _ (sc _ _ e n)) n)
    ·obtain⟨x,y,e,r⟩:=hp5.same st
     exact⟨x,y,o8 _ nMp.symm _ (by rw[o6 _ nPp.symm];exact e),r⟩
    ·refine o8 _ nPM _ ?_
     rw[hP6,dL];rfl
    ·have g:=po6 z hz
     exact o8 _ (by rintro e;rw[e,hM6] at g;cases g) _ g
    ·rw[ez,jZ]
     exact Tr.add List.nodup_range (fun x hx=>List.mem_range.mp hx) (List.getElem?_range (by lia)) (by rw[List.take_range,Nat.min_eq_left (by lia)];exact hs1) (by show deg _ _<8;lia)
    ·rw[ez,xM,z0,if_neg (fun z=>by have:=Int.ofNat.inj z;lia),if_pos rfl];lia
  rintro σ Hc ⟨zs,⟨a,b,c,d',rfl⟩,sc,hpc,hPc,po,hMc,Tr,dg⟩
  rw[show n-1+1=n by lia] at Tr
  have F0:=Tr.fine n1 n2 (List.Perm.refl _)
  refine⟨_,rfl,(m:Int),rfl,by lia,by lia,?_⟩
  refine cR (lo:=0) (n:=m) (fun i σ Hc=>∃zs:Zs,(∃a b c d,σ=[some (.ref p),some (.int n),some (.int m),some (.ref Pr),some (.ref M),a,b,c,d])∧aO p H Hc∧aY Hc p∧Hc Pr=some (.lst (zr zs))∧PO Hc zs∧Hc M=some (.lst (NV (degL n (zp zs))))∧Fine n (dbl (zp zs)))
   ⟨zs,⟨_,_,_,_,rfl⟩,sc,hpc,hPc,po,hMc,F0⟩ ?_ ?_
  ·clear F0 Tr dg po hPc hMc hpc sc zs
   rintro i σ Hc hi ⟨zs,⟨a',b',c',d',rfl⟩,sc,hpc,hPc,po,hMc,Fi⟩
   have hzl:zs.length≤256:=by have:=Fi.len;rw[mB,bH] at this;lia
   refine⟨_,rfl,_,rfl,p,n,rfl,by lia,by lia,hpc,fun a H4 ha s4 hp4=>⟨_,rfl,_,rfl,p,n,rfl,by lia,by lia,hp4,fun b H5 hb s5 hp5=>⟨_,_,rfl,?_⟩⟩⟩
   have sH5:=(sc.trans s4).trans s5
   have hP5:=s5 _ _ (s4 _ _ hPc nPp) nPp
   have hM5:=s5 _ _ (s4 _ _ hMc nMp) nMp
   have po5:=(po.sameE s4 hpc).sameE s5 hp4
   clear s4 s5 hp4 hPc hMc po hpc sc
   dsimp only
   have stay:∀Hd:Hp,Same H5 Hd→∃zs:Zs,(∃x1 x2 x3 x4,[some (V.ref p),some (.int n),some (.int m),some (.ref Pr),some (.ref M),some (.int (0+(i:Int))),b',some (.int (a:Nat)),some (.int (b:Nat))]=[some (.ref p),some (.int n),some (.int m),some (.ref Pr),some (.ref M),x1,x2,x3,x4])∧aO p H Hd∧aY Hd p∧Hd Pr=some (.lst (zr zs))∧PO Hd zs∧Hd M=some (.lst (NV (degL n (zp zs))))∧Fine n (dbl (zp zs)):=fun Hd sd=>⟨zs,⟨_,_,_,_,rfl⟩,sH5.trans (aO.of sd),hp5.same sd,sd _ _ hP5,po5.same sd,sd _ _ hM5,Fi⟩
   have han:a<(degL n (zp zs)).length:=by rw[eM];exact ha
   have hbn:b<(degL n (zp zs)).length:=by rw[eM];exact hb
   refine⟨_,rfl,_,rfl,rfl,_,rfl,?_⟩
   by_cases hab:a=b
   ·exact oN (by subst hab;simp) (iteF (stay _ (Same.refl _)))
   refine rK (by simp;lia) ⟨_,rfl,_,rfl,M,_,_,_,rfl,rfl,SqL.of hM5,aM (eU han),_,rfl,_,rfl,M,_,_,_,rfl,rfl,SqL.of hM5,aM (eU hbn),_,_,rfl,_,_,rfl,rfl,_,rfl,?_⟩
   rw[gE ha,gE hb]
   refine ite2 (fun cm=>?_) (fun cm=>stay _ (Same.refl _))
   have cm:=of_decide_eq_true cm
   have da:deg (dbl (zp zs)) (ci a)≤7:=by split at cm <;> lia
   have db:deg (dbl (zp zs)) (ci b)≤7:=by split at cm <;> lia
   refine⟨_,rfl,_,rfl,by show 2≤sizeLine;decide,fun t1 ht1=>?_⟩
   have st1:=aE (o:=prT (ci a,ci b)) ht1
   obtain⟨l1,l2⟩:=rL (K:=K) (po5.same st1)
   refine⟨_,rfl,t1,Pr,(ci a,ci b),zs.map (fun z:Addr×Int×Int=>z.1),zp zs,rfl,rfl,SqT.of aB,by rw[← gC];exact SqL.of (st1 _ _ hP5),by rw[List.length_map];exact l1,l2,_,rfl,?_⟩
   by_cases in1:(ci a,ci b)∈zp zs
   ·exact oN (by simp[in1]) (iteF (stay _ st1))
   refine rK (by simp[in1]) ⟨_,rfl,_,rfl,by show 2≤sizeLine;decide,fun t2 ht2=>?_⟩
   have st2:=st1.trans (aE (o:=prT (ci b,ci a)) ht2)
   obtain⟨l1,l2⟩:=rL (K:=K) (po5.same st2)
   refine⟨_,rfl,t2,Pr,(ci b,ci a),zs.map (fun z:Addr×Int×Int=>z.1),zp zs,rfl,rfl,SqT.of aB,by rw[← gC];exact SqL.of (st2 _ _ hP5),by rw[List.length_map];exact l1,l2,_,rfl,?_⟩
   by_cases in2:(ci b,ci a)∈zp zs
   ·exact oN (by simp[in2]) (stay _ st2)
   have hP6:=st2 _ _ hP5
   have hM6:=st2 _ _ hM5
   refine rK (by simp[in2]) ⟨_,rfl,.inl ⟨rfl,_,SqL.of hP6⟩,_,rfl,_,rfl,by show 2≤sizeLine;decide,fun t ht=>?_⟩
   have st3:=aE (o:=prT (ci a,ci b)) ht
   refine⟨Pr,_,_,rfl,rfl,st3 _ _ hP6,by rw[cL];exact Nat.lt_of_le_of_lt hzl (by decide),?_⟩
   have po7:=PO.putL (xs:=zr zs) ((po5.same (st2.trans st3)).append (PO.one aB)) (st3 _ _ hP6) (o:=.lst (zr zs++[.ref t]))
   have sH7:∀x o,H x=some o→x≠p→x≠Pr→(upd (upd (upd (upd H5 t1 (prT (ci a,ci b))) t2 (prT (ci b,ci a))) t (prT (ci a,ci b))) Pr (.lst (zr zs++[.ref t]))) x=some o:=fun x o e n n2=>by
    rw[aH n2];exact st3 _ _ (st2 _ _ (sH5 _ _ e n))
   have hp7:=((hp5.same st2).same st3).put (o:=.lst (zr zs++[.ref t])) nPp.symm
   have hM7:=(aH (H:=upd (upd (upd H5 t1 (prT (ci a,ci b))) t2 (prT (ci b,ci a))) t (prT (ci a,ci b))) (o:=.lst (zr zs++[.ref t])) nPM.symm).trans (st3 _ _ hM6)
   have hP7:=aB (H:=upd (upd (upd H5 t1 (prT (ci a,ci b))) t2 (prT (ci b,ci a))) t (prT (ci a,ci b))) (a:=Pr) (o:=.lst (zr zs++[.ref t]))
   generalize upd (upd (upd (upd H5 _ _) _ _) _ _) Pr _=H7 at *
   refine⟨_,rfl,_,rfl,M,_,_,_,rfl,rfl,SqL.of hM7,aM (eU han),_,_,rfl,rfl,_,rfl,_,rfl,M,_,(a:Int),a,rfl,rfl,hM7,cV (by rw[bD];exact han),?_⟩
   have e2:(NV (degL n (zp zs))).set a (V.int ((((degL n (zp zs)).getD a 0:Nat):Int)+1))=NV ((degL n (zp zs)).set a (deg (dbl (zp zs)) (ci a)+1)):=by
    rw[gE ha]
    exact jP (x:=deg (dbl (zp zs)) (ci a)+1)
   have hkn:b<((degL n (zp zs)).set a (deg (dbl (zp zs)) (ci a)+1)).length:=by rw[List.length_set];exact hbn
   have ek:((degL n (zp zs)).set a (deg (dbl (zp zs)) (ci a)+1)).getD b 0=deg (dbl (zp zs)) (ci b):=by
    rw[List.getD_eq_getElem?_getD,List.getElem?_set_ne hab,← List.getD_eq_getElem?_getD,gE hb]
   generalize hH8:upd H7 M _=H8
   have gM8:H8 M=some (.lst (NV ((degL n (zp zs)).set a (deg (dbl (zp zs)) (ci a)+1)))):=by rw[← hH8,aB];exact congrArg (fun l=>some (HO.lst l)) e2
   have o8:∀b,b≠M→H8 b=H7 b:=fun b n=>by rw[← hH8,aH n]
   refine⟨_,rfl,_,rfl,M,_,_,_,rfl,rfl,SqL.of gM8,aM (eU hkn),_,_,rfl,rfl,_,rfl,_,rfl,M,_,(b:Int),b,rfl,rfl,gM8,cV (by rw[bD];exact hkn),?_⟩
   generalize hH9:upd H8 M _=H9
   have e3:(NV ((degL n (zp zs)).set a (deg (dbl (zp zs)) (ci a)+1))).set b (V.int (((((degL n (zp zs)).set a (deg (dbl (zp zs)) (ci a)+1)).getD b 0:Nat):Int)+1))=NV (degL n (zp zs++[(ci a,ci b)])):=by
    rw[ek,← uO ha hb hab]
    exact jP (x:=deg (dbl (zp zs)) (ci b)+1)
   have gM9:H9 M=some (.lst (NV (degL n (zp zs++[(ci a,ci b)])))):=by rw[← hH9,aB];exact congrArg (fun l=>some (HO.lst l)) e3
   have o9:∀b,b≠M→H9 b=H7 b:=fun b n=>by rw[← hH9,aH n];exact o8 b n
   have ez:zp (zs++[(t,(ci a,ci b))])=zp zs++[(ci a,ci b)]:=by rw[dM];rfl
   refine⟨zs++[(t,(ci a,ci b))],⟨_,_,_,_,rfl⟩,fun b o e n=>?_,?_,?_,fun z hz=>?_,by rw[ez];exact gM9,?_⟩
   ·rw[o9 _ (aG e hMH)]
    exact sH7 _ _ e n (aG e hPr)
   ·obtain⟨x,y,e,r⟩:=hp7
    exact⟨x,y,by rw[o9 _ nMp.symm];exact e,r⟩
   ·rw[o9 _ nPM,hP7,dL];rfl
   ·have g:=po7 z hz
    rw[o9 _ (by rintro e;rw[e,hM7] at g;cases g)]
    exact g
   ·rw[ez]
    exact Fi.pair ha hb hab in1 in2 da db
  ·rintro σ Hc ⟨zs,⟨a',b',c',d',rfl⟩,sc,hpc,hPc,po,hMc,Fi⟩
   exact⟨_,rfl,q Pr zs Hc sc hpc hPr hPc po Fi⟩
end
end K12
namespace L2
open PySem PySem.Spec PyProof.Rows
def rM:List Nat→TA
 |[]=>tNil
 |n::ns=>bJ (tC (.int (n:Nat))) (rM ns)
def zP:List (List Nat)→TA
 |[]=>tNil
 |c::cs=>bJ (tTup (rM c)) (zP cs)
def rdN:Expr→Option Nat
 |.Constant (.int (.ofNat n)) _ _=>some n
 |_=>none
def rdNs:List Expr→Option (List Nat)
 |[]=>some []
 |e::es=>(rdN e).bind fun n=>(rdNs es).map (n::·)
def rdTs:List Expr→Option (List (List Nat))
 |[]=>some []
 |.Tuple es _ _::r=>(rdNs es).bind fun c=>(rdTs r).map (c::·)
 |_=>none
theorem aEm{e:Expr}{n:Nat}(h:rdN e=some n):∃j pos,e=.Constant (.int (n:Nat)) j pos:=by
 unfold rdN at h
 split at h
 ·cases h;exact⟨_,_,rfl⟩
 ·cases h
theorem xN{X:Cx}:∀ {es:List Expr} {ns:List Nat},rdNs es=some ns→PA X es (rM ns)
 |[],ns,h=>by cases h;exact aD
 |e::es,ns,h=>by
  unfold rdNs at h
  obtain⟨n,h1,h2⟩:=Option.bind_eq_some_iff.mp h
  obtain⟨ms,h3,rfl⟩:=Option.map_eq_some_iff.mp h2
  obtain⟨j,pos,rfl⟩:=aEm h1
  exact aA aJ (xN h3)
theorem xO{X:Cx}:∀ {es:List Expr} {cs:List (List Nat)},rdTs es=some cs→PA X es (zP cs)
 |[],cs,h=>by cases h;exact aD
 |e::r,cs,h=>by
  unfold rdTs at h
  split at h
  ·cases h;contradiction
  ·rename_i es _ _ r' e'
   cases e'
   obtain⟨n,h1,h2⟩:=Option.bind_eq_some_iff.mp h
   obtain⟨ms,h3,rfl⟩:=Option.map_eq_some_iff.mp h2
   exact aA (bW (xN h1)) (xO h3)
  ·cases h
end L2
namespace K12
open PySem L2 NetM
abbrev sBox:Stmt:=top 36
abbrev lI:Stmt:=top 37
theorem iB:(["_law_more","_law_house","_law_figure","_law_step"]:List Str).Nodup:=by decide +kernel
theorem aBt:∀ {ns:List Nat} {σ:St} {H:Hp} {Q:List V→Hp→Prop},Q (NV ns) H→rM ns σ H Q
 |[],σ,H,Q,h=>h
 |n::ns,σ,H,Q,h=>aBt (ns:=ns) (Q:=fun xs H2=>Q (.int (n:Nat)::xs) H2) h
theorem aBu:∀ {cs:List (List Nat)} {σ:St} {H:Hp} {Q:List V→Hp→Prop},(∀c∈cs,c.length≤5)→(∀ (as:List Addr) (H':Hp),Same H H'→as.length=cs.length→(∀i,i<cs.length→H' (as.getD i 0)=some (.tup (NV (cs.getD i []))))→Q (as.map V.ref) H')→zP cs σ H Q
 |[],σ,H,Q,_,h=>h [] H (Same.refl _) rfl fun i hi=>nomatch hi
 |c::cs,σ,H,Q,hc,h=>by
  refine aBt (ns:=c) ⟨?_,fun t ht=>?_⟩
  ·rw[bD];exact Nat.le_trans (hc c List.mem_cons_self) (by decide)
  refine aBu (cs:=cs) (fun c hc'=>hc c (List.mem_cons_of_mem _ hc')) fun as H' s l e=>?_
  refine h (t::as) H' ((aE ht).trans s) (congrArg (·+1) l) fun i hi=>?_
  cases i with
  |zero=>exact s _ _ aB
  |succ i=>exact e i (Nat.lt_of_succ_lt_succ hi)
theorem pQ{ns:List Nat}{h:Nat}:∀ {i:Nat},(bxH ns i h).length≤i
 |0=>Nat.zero_le _
 |i+1=>by
  have e:bxH ns (i+1) h=bxH ns i h++if h / pr (ns.take i) % ns.getD i 0+1<ns.getD i 0 then [(h,h+pr (ns.take i))] else []:=by unfold bxH;rw[cX]
  rw[e,List.length_append]
  have:=pQ (ns:=ns) (h:=h) (i:=i)
  split <;> simp <;> lia
theorem pR{b h:Nat}(hb:b≤5):∀ {i:Nat},(wdH b i h).length≤5*i
 |0=>Nat.zero_le _
 |i+1=>by
  have e:wdH b (i+1) h=wdH b i h++wdF b i h:=by unfold wdH;rw[cX]
  rw[e,List.length_append]
  have:=pR (b:=b) (h:=h) hb (i:=i)
  have:(wdF b i h).length≤5:=by unfold wdF;rw[List.length_map,List.length_range];lia
  lia
theorem zQ:∃es q1 q2 q3 cs r,cB lI=.Assign [.Name "_law_sizes" q1] (.List es q2) q3::r∧r=(cB lI).drop 1∧rdTs es=some cs∧cs=[[1,3,3],[1,4,4],[1,5,5],[2,3,9],[2,4,16],[2,5,25],[3,3,27],[3,2,8],[5,2,32]]:=
 ⟨_,_,_,_,[[1,3,3],[1,4,4],[1,5,5],[2,3,9],[2,4,16],[2,5,25],[3,3,27],[3,2,8],[5,2,32]],_,rfl,rfl,by decide +kernel,rfl⟩
def aDv(p:Addr)(H:Hp)(Q:V→Hp→Prop):Prop:=∀ (t r:Addr) (n:Nat) (zs:Zs) (H':Hp),aO p H H'→aY H' p→H t=none→H r=none→H' t=some (.tup [.int n,.ref r])→H' r=some (.lst (zr zs))→PO H' zs→Fine n (dbl (zp zs))→Q (.ref t) H'
section
variable {P:Program} {w:World} {K:PySem.W.Frag} {mg:Str→Option Value} {base:Heap}
theorem iC:aW ["_law_pot_here","_law_sides","_law_whole","_law_k","_law_found","_law_house","_law_step","_law_side"] ["_law_pot_here"] (aL sBox):=⟨rfl,rfl,rfl,by decide +kernel,rfl,by decide +kernel,by decide +kernel⟩
def mH:Sp:=fun vs H Q _=>∃p:Addr,vs=[.ref p]∧aY H p∧aDv p H Q
theorem aEn{f:Addr}{fd:FuncData}(F:Fun K "_law_box" "_law_box" sBox f fd)(B:Bl mg)(D:Cal P w K mg base CX0 1 "_law_take" ["_law_pot_here","_law_many"] eL):FnOk P w K mg base CX0 2 f fd ["_law_pot_here"] mH:=by
 refine F.ok iC (fun vs H Q E h=>?_) (fun cdv A outer s H vs Q E hr h=>?_)
 ·obtain⟨p,rfl,_⟩:=h
  rfl
 ·obtain⟨p,rfl,hp,q⟩:=h
  refine⟨_,(aF (rS (i:=1) (j:=2) rfl iC.nd rfl rfl (by decide) rfl rfl (aA (bY aD) (aA aJ aD)) (by rfl))
   (aF (cH PassesOwn.never rfl (bT rfl B.range (aA (aV cD aJ (aN D hr aQ (aA (pv 0) (aA aJ aD)))) aD)) (aK (i:=3) iC.nd rfl (Or.inl rfl))
    (aI (bZ (aX gJ (pv 2) aJ (aZ _)) (aF (bV (dA PySem.F.plainAttrs_list PySem.F.slot_list_append PySem.F.type_list_append cE (pv 1) (aA (aV cD aJ (aN D hr aQ (aA (pv 0) (aA (aU (kN rfl) (by rfl) B.min PyProof.Rows.boot_min (aA aJ (aA (aV gU (aV oY aJ (pv 2)) aJ) aD))) aD)))) aD)))
     (aI (aT (i:=2) iC.nd rfl (Or.inl rfl) (aV iK (pv 2) (aS aP (pv 1) (xX rX aJ) (fun _ _=>rfl)))))) bS)))
   (aF (aT (i:=4) iC.nd rfl (Or.inl rfl) (bY aD))
   (aF (cH PassesOwn.never rfl (bT rfl B.range (aA (pv 2) aD)) (aK (i:=5) iC.nd rfl (Or.inl rfl))
    (aF (aT (i:=6) iC.nd rfl (Or.inl rfl) aJ)
    (aI (cH PassesOwn.never rfl (bN (pv 1)) (aK (i:=7) iC.nd rfl (Or.inl rfl))
     (aF (bZ (aX gJ (aV fK (aV oY (pv 5) (pv 6)) (pv 7)) (aV gU (pv 7) aJ) (aZ _)) (aI (bV (dA PySem.F.plainAttrs_list PySem.F.slot_list_append PySem.F.type_list_append cE (pv 4) (aA (bW (aA (pv 5) (aA (aV cD (pv 5) (pv 6)) aD))) aD)))) bS)
     (aI (aT (i:=6) iC.nd rfl (Or.inl rfl) (aV iK (pv 6) (pv 7)))))))))
   (aI (bA (bW (aA (pv 2) (aA (pv 4) aD))))))))),?_⟩
  refine⟨by show 0≤sizeLine;decide,fun S hS=>⟨_,_,rfl,?_⟩⟩
  have sS:=aE (o:=.lst []) hS
  have nSp:S≠p:=hp.ne hS
  dsimp only
  refine⟨_,rfl,p,5,rfl,by decide,by decide,hp.same sS,fun d H1 hd s1 hp1=>⟨_,_,rfl,rfl,(1+(d:Int)),rfl,by lia,by lia,?_⟩⟩
  rw[show (1+(d:Int)).toNat=1+d by lia]
  refine cR (lo:=0) (n:=1+d) (fun i σ Hc=>∃ns:List Nat,(∃a,σ=[some (.ref p),some (.ref S),some (.int ((pr ns:Nat):Int)),a,none,none,none,none])∧aO p H Hc∧aY Hc p∧Hc S=some (.lst (NV ns))∧ns.length≤i∧(∀x∈ns,2≤x∧x≤8)∧pr ns≤32∧(0<i→ns≠[]))
   ⟨[],⟨_,rfl⟩,(aO.of sS).trans s1,hp1,s1 _ _ aB nSp,Nat.le_refl _,fun x hx=>(nomatch hx),by decide,fun z=>absurd z (Nat.lt_irrefl _)⟩ ?_ ?_
  ·rintro i σ Hc hi ⟨ns,⟨a,rfl⟩,sc,hpc,hSc,nl,nb,np,nn⟩
   have p1:1≤pr ns:=fQ (ns:=ns) (i:=0) fun x hx=>by have:=nb x hx;lia
   refine⟨_,rfl,_,_,rfl,rfl,_,rfl,ite2 (fun c=>?_) (fun c=>?_)⟩
   ·have c:=of_decide_eq_true c
    have hq:(32:Int) / ((pr ns:Nat):Int)=((32 / pr ns:Nat):Int):=rfl
    have q2:2≤32 / pr ns:=(Nat.le_div_iff_mul_le (by lia)).mpr (by lia)
    have em:(if (32:Int) / ((pr ns:Nat):Int)-1<7 then (32:Int) / ((pr ns:Nat):Int)-1 else 7)=((min 7 (32 / pr ns-1):Nat):Int):=by rw[hq];split <;> lia
    refine⟨_,rfl,.inl ⟨rfl,_,SqL.of hSc⟩,_,rfl,_,rfl,_,_,rfl,rfl,⟨by lia,by lia⟩,_,_,rfl,rfl,7,_,rfl,p,min 7 (32 / pr ns-1),by rw[em];rfl,by lia,by lia,hpc,fun e H2 he s2 hp2=>⟨_,_,rfl,rfl,S,_,_,rfl,rfl,s2 _ _ hSc nSp,by rw[bD];exact Nat.lt_of_le_of_lt (show ns.length≤6 by lia) (by decide),?_⟩⟩
    have e2:NV ns++[V.int (2+(e:Int))]=NV (ns++[2+e]):=by rw[← eO];congr 2
    rw[e2]
    refine⟨_,rfl,_,rfl,_,rfl,S,_,_,_,rfl,rfl,SqL.of aB,by rw[← eO];exact sD _ _,_,_,rfl,rfl,.inr ⟨by lia,by lia⟩,?_⟩
    have hle:pr ns*(2+e)≤32:=Nat.le_trans (Nat.mul_le_mul_left _ (show 2+e≤32 / pr ns by lia)) (Nat.mul_div_le _ _)
    refine⟨ns++[2+e],⟨some (.int (0+(i:Int))),?_⟩,fun b o g n=>?_,hp2.put nSp.symm,aB,by rw[List.length_append,List.length_singleton];lia,fun x hx=>?_,by rw[mF];exact hle,fun _=>by simp⟩
    ·rw[mF,Int.natCast_mul];rfl
    ·rw[aH (aG g hS)];exact s2 _ _ (sc _ _ g n) n
    ·rcases List.mem_append.mp hx with z|z
     ·exact nb x z
     ·rw[List.mem_singleton.mp z];lia
   ·have c:¬ pr ns<17:=fun z=>c (decide_eq_true (by lia))
    exact⟨ns,⟨_,rfl⟩,sc,hpc,hSc,by lia,nb,np,fun _ z=>by rw[z] at c;exact c (by decide)⟩
  rintro σ Hc ⟨ns,⟨a,rfl⟩,sc,hpc,hSc,nl,nb,np,nn⟩
  have nn:=nn (by lia)
  have p1:1≤pr ns:=fQ (ns:=ns) (i:=0) fun x hx=>by have:=nb x hx;lia
  have hn1:∀x∈ns,1≤x:=fun x hx=>by have:=nb x hx;lia
  refine⟨by show 0≤sizeLine;decide,fun R hR=>?_⟩
  have sR:=aE (o:=.lst []) hR
  refine⟨_,rfl,((pr ns:Nat):Int),rfl,by lia,by lia,?_⟩
  rw[Int.toNat_natCast]
  have fl:∀i,i≤32→∀j,j≤5→(((List.range i).flatMap (bxH ns ns.length))++bxH ns j i).length≤200:=fun i hi j hj=>by
   rw[List.length_append]
   have:=jJ (m:=i) (g:=bxH ns ns.length) (M:=5) fun x=>Nat.le_trans pQ (by lia)
   have:=pQ (ns:=ns) (h:=i) (i:=j)
   lia
  refine cR (lo:=0) (n:=pr ns) (fun i σ Hd=>(∃x a b c,σ=[some (.ref p),some (.ref S),some (.int ((pr ns:Nat):Int)),x,some (.ref R),a,b,c])∧iA Hc R (((List.range i).flatMap (bxH ns ns.length)).map ci2) Hd) ⟨⟨_,_,_,_,rfl⟩,sR,[],aB,PO.nil,rfl⟩ ?_ ?_
  ·rintro i σ Hd hi ⟨⟨x3,x5,x6,x7,rfl⟩,Pi⟩
   rw[Int.zero_add]
   refine⟨_,rfl,S,rfl,⟨_,SqL.of (Pi.1 _ _ hSc)⟩,dN (K:=K) (xs:=NV ns) (fun j σ He=>(∃x c,σ=[some (.ref p),some (.ref S),some (.int ((pr ns:Nat):Int)),x,some (.ref R),some (.int (i:Int)),some (.int ((pr (ns.take j):Nat):Int)),c])∧iA Hc R ((((List.range i).flatMap (bxH ns ns.length))++bxH ns j i).map ci2) He) ⟨⟨_,_,rfl⟩,by simpa [bxH] using Pi⟩ (fun j σ He _ z=>SqL.of (z.2.1 _ _ hSc)) ?_ ?_⟩
   ·rintro j x σ He hx ⟨⟨y3,y7,rfl⟩,Pj⟩
    obtain⟨n,hv,rfl⟩:=kD hx
    have hj:j<ns.length:=(List.getElem?_eq_some_iff.mp hv).1
    have hnn:=nb n (List.mem_of_getElem? hv)
    have hst:=fQ (ns:=ns) (i:=j) hn1
    have hst0:1≤pr (ns.take j):=fQ (ns:=ns.take j) (i:=0) fun x hx=>hn1 x (List.mem_of_mem_take hx)
    have gd:ns.getD j 0=n:=by rw[List.getD_eq_getElem?_getD,hv];rfl
    have tk:ns.take (j+1)=ns.take j++[n]:=by rw[List.take_add_one,hv];rfl
    have eB:bxH ns (j+1) i=bxH ns j i++if i / pr (ns.take j) % n+1<n then [(i,i+pr (ns.take j))] else []:=by unfold bxH;rw[cX,gd]
    rw[tk,mF,eB]
    have fl':=fl i (by lia) j (by lia)
    generalize pr (ns.take j)=st at *
    dsimp only
    refine kB (fun σ He=>σ=[some (.ref p),some (.ref S),some (.int ((pr ns:Nat):Int)),y3,some (.ref R),some (.int (i:Int)),some (.int (st:Int)),some (.int (n:Int))]∧iA Hc R ((((List.range i).flatMap (bxH ns ns.length))++(bxH ns j i++if i / st % n+1<n then [(i,i+st)] else [])).map ci2) He) ?_ ?_
    ·rintro σ He ⟨rfl,Pe⟩
     exact⟨_,rfl,_,rfl,_,_,rfl,rfl,.inr ⟨by lia,by lia⟩,⟨_,_,rfl⟩,Pe⟩
    ·intro N hN
     have hdv:(i:Int) / (st:Int) % (n:Int)=((i / st % n:Nat):Int):=rfl
     refine⟨_,rfl,_,rfl,_,_,rfl,rfl,⟨by lia,by lia⟩,_,rfl,_,_,rfl,rfl,(by show (0:Int)<(n:Int);lia),_,rfl,_,_,rfl,rfl,_,_,rfl,rfl,_,rfl,?_⟩
     rw[hdv]
     obtain⟨sm,zs2,hR2,po2,ez2⟩:=Pj
     refine ite2 (fun c=>?_) (fun c=>?_)
     ·have c:=of_decide_eq_true c
      refine⟨_,rfl,.inl ⟨rfl,_,SqL.of hR2⟩,_,rfl,_,rfl,_,rfl,_,_,rfl,rfl,by show 2≤sizeLine;decide,fun t ht=>?_⟩
      have st':=aE (o:=prT (ci2 (i,i+st))) ht
      refine⟨R,_,_,rfl,rfl,st' _ _ hR2,?_,?_⟩
      ·rw[cL,← bH,ez2,List.length_map]
       exact Nat.lt_of_le_of_lt fl' (by decide)
      ·refine hN _ _ ⟨rfl,?_⟩
       rw[if_pos (by lia),← List.append_assoc,List.map_append]
       exact iA.ext (zs:=[(t,ci2 (i,i+st))]) hR sm hR2 po2 ez2 st' (PO.one aB) rfl
     ·refine hN _ _ ⟨rfl,?_⟩
      rw[if_neg (fun z=>c (decide_eq_true (by lia))),List.append_nil]
      exact⟨sm,zs2,hR2,po2,ez2⟩
   ·rintro σ He ⟨⟨y3,y7,rfl⟩,Pe⟩
    refine⟨⟨_,_,_,_,rfl⟩,?_⟩
    rw[bD] at Pe
    rw[cX]
    exact Pe
  ·rintro σ Hd ⟨⟨x3,x5,x6,x7,rfl⟩,sm,zs2,hR2,po2,ez2⟩
   refine⟨_,rfl,_,rfl,by show 2≤sizeLine;decide,fun t ht=>?_⟩
   have st:=aE (o:=.tup [.int ((pr ns:Nat):Int),.ref R]) ht
   have fr:∀ {a:Addr},Hc a=none→H a=none:=fun h=>sc.free hpc.full h
   refine q t R (pr ns) zs2 _ (sc.trans (aO.of (sm.trans st))) ((hpc.same sm).same st) (fr (sm.free ht)) (fr hR) aB (st _ _ hR2) (po2.same st) ?_
   rw[ez2]
   refine(aBW (fun x hx=>(nb x hx).1) nn np).perm (jE (List.Perm.map _ ?_))
   refine aB8.trans (List.Perm.of_eq ?_)
   unfold boxQ
   rw[aBq]
   simp only[Nat.one_mul]
theorem dU:aW ["_law_pot_here","_law_sizes","_law_figures","_law_base","_law_many","_law_found","_law_house","_law_step","_law_k","_law_figure"] ["_law_pot_here"] (aL lI):=⟨rfl,rfl,rfl,by decide +kernel,rfl,by decide +kernel,by decide +kernel⟩
theorem aCb{f:Addr}{fd:FuncData}(F:Fun K "_law_words" "_law_words" lI f fd)(B:Bl mg)(D:Cal P w K mg base CX0 1 "_law_take" ["_law_pot_here","_law_many"] eL):FnOk P w K mg base CX0 2 f fd ["_law_pot_here"] mH:=by
 refine F.ok dU (fun vs H Q E h=>?_) (fun cdv A outer s H vs Q E hr h=>?_)
 ·obtain⟨p,rfl,_⟩:=h
  rfl
 ·obtain⟨p,rfl,hp,q⟩:=h
  obtain⟨es,q1,q2,q3,cs,r,eb,er,hes,ec⟩:=zQ
  rw[eb,er]
  refine'⟨_,(aF (aT (i:=1) dU.nd rfl (Or.inl rfl) (bY (xO hes)))
   (aF (cK (aS aP (pv 1) (aN D hr aQ (aA (pv 0) (aA aJ aD))) (fun _ _=>rfl)) (cM (n:=3) rfl (aR (aK (i:=2) dU.nd rfl (Or.inl rfl)) (aR (aK (i:=3) dU.nd rfl (Or.inl rfl)) (aR (aK (i:=4) dU.nd rfl (Or.inl rfl)) cF)))))
   (aF (aT (i:=5) dU.nd rfl (Or.inl rfl) (bY aD))
   (aF (cH PassesOwn.never rfl (bT rfl B.range (aA (pv 4) aD)) (aK (i:=6) dU.nd rfl (Or.inr rfl))
    (aF (aT (i:=7) dU.nd rfl (Or.inr rfl) aJ)
    (aI (cH PassesOwn.never rfl (bT rfl B.range (aA (pv 2) aD)) (aK (i:=8) dU.nd rfl (Or.inl rfl))
     (aF (aT (i:=9) dU.nd rfl (Or.inr rfl) (aV fK (aV oY (pv 6) (pv 7)) (pv 3)))
     (aF (bV (dA PySem.F.plainAttrs_list PySem.F.slot_list_extend PySem.F.type_list_extend aAw (pv 5) (aA ?c1 aD)))
     (aI (aT (i:=7) dU.nd rfl (Or.inr rfl) (aV iK (pv 7) (pv 3))))))))))
   (aI (bA (bW (aA (pv 4) (aA (pv 5) aD))))))))),?_⟩
  case c1=>
   refine' cG (g:=(bB 0)) (te:=(tTup (bJ (tVar 1) (bJ (tOp (rI0 fun i j=>.int (i+j)) (tVar 1) (tOp (rI CMul fun i j=>.int (i*j)) (tOp (rI0 fun i j=>.int (i-j)) (tVar 0) (tVar 2)) (tVar 3))) tNil)))) (NB:=["_law_more","_law_house","_law_figure","_law_step"]) (src:=[none,some 6,some 9,some 7]) (bP (by kernel_rfl)) rfl (kL rfl B.range (aA (aV cD (pv 9) aJ) (aA (pv 3) aD))) ?g ?t ?e
   case g=>exact fun cl C s₃ H₃ fp=>(aK (i:=0) iB rfl (Or.inl rfl) (Or.inr rfl))
   case t=>exact fun cl C s₃ H₃ fp=>cQ
   case e=>exact fun cl C s₃ H₃ fp=>(bW (aA (pv 1) (aA (aV cD (pv 1) (aV iK (aV gU (pv 0) (pv 2)) (pv 3))) aD)))
  refine aBu (cs:=cs) (by rw[ec];decide) fun as H4 s4 la ea=>⟨?_,fun S hS=>?_⟩
  ·rw[List.length_map,la,ec];show 9≤sizeLine;decide
  have sS:=aE (o:=.lst (as.map V.ref)) hS
  refine⟨_,rfl,_,rfl,p,9,rfl,by decide,by decide,(hp.same s4).same sS,fun d H5 hd s5 hp5=>?_⟩
  have had:as[d]?=some (as.getD d 0):=by rw[List.getD_eq_getElem?_getD,List.getElem?_eq_getElem (by rw[la,ec];exact hd)];rfl
  have nS:S≠p:=(hp.same s4).ne hS
  have ga:=ea d (by rw[ec];exact hd)
  have ga5:=s5 _ _ (sS _ _ ga) ((hp.same s4).neT ga)
  have sd:∀d,d<9→∃f b:Nat,([[1,3,3],[1,4,4],[1,5,5],[2,3,9],[2,4,16],[2,5,25],[3,3,27],[3,2,8],[5,2,32]]:List (List Nat)).getD d []=[f,b,b ^ f]∧1≤f∧f≤5∧2≤b∧b≤5∧b ^ f≤32:=fun d hd=>
   ⟨(([[1,3,3],[1,4,4],[1,5,5],[2,3,9],[2,4,16],[2,5,25],[3,3,27],[3,2,8],[5,2,32]]:List (List Nat)).getD d []).getD 0 0,(([[1,3,3],[1,4,4],[1,5,5],[2,3,9],[2,4,16],[2,5,25],[3,3,27],[3,2,8],[5,2,32]]:List (List Nat)).getD d []).getD 1 0,by revert d;decide⟩
  obtain⟨fg,b,e9,f1,f2,b1,b2,hm⟩:=sd d hd
  rw[ec,e9] at ga5
  refine⟨S,_,_,_,rfl,rfl,SqL.of (s5 _ _ aB nS),aM (by rw[List.getElem?_map,had];rfl),_,_,rfl,SqT.of ga5,rfl,_,_,rfl,_,_,rfl,_,_,rfl,rfl,?_⟩
  have sH5:aO p H H5:=(aO.of (s4.trans sS)).trans s5
  clear sd ga5 ga had ea la e9 hd s5
  have hpw:∀i,i≤fg→b ^ i≤32:=fun i hi=>Nat.le_trans (Nat.pow_le_pow_right (by lia) hi) hm
  refine⟨by show 0≤sizeLine;decide,fun R hR=>?_⟩
  have sR:=aE (o:=.lst []) hR
  refine⟨_,rfl,((b ^ fg:Nat):Int),rfl,by lia,by lia,?_⟩
  rw[Int.toNat_natCast]
  refine cR (lo:=0) (n:=b ^ fg) (fun i σ Hd=>(∃u v c e,σ=[some (.ref p),some (.ref S),some (.int (fg:Int)),some (.int (b:Int)),some (.int ((b ^ fg:Nat):Int)),some (.ref R),u,v,c,e])∧iA H5 R (((List.range i).flatMap (wdH b fg)).map ci2) Hd) ⟨⟨_,_,_,_,rfl⟩,sR,[],aB,PO.nil,rfl⟩ ?_ ?_
  ·rintro i σ Hd hi ⟨⟨x3,x5,x6,x7,rfl⟩,Pi⟩
   rw[Int.zero_add]
   refine⟨_,rfl,(fg:Int),rfl,by lia,by lia,?_⟩
   rw[Int.toNat_natCast]
   refine cR (lo:=0) (n:=fg) (fun j σ He=>(∃c e,σ=[some (.ref p),some (.ref S),some (.int (fg:Int)),some (.int (b:Int)),some (.int ((b ^ fg:Nat):Int)),some (.ref R),some (.int (i:Int)),some (.int ((b ^ j:Nat):Int)),c,e])∧iA H5 R ((((List.range i).flatMap (wdH b fg))++wdH b j i).map ci2) He) ⟨⟨_,_,rfl⟩,by simpa [wdH] using Pi⟩ ?_ ?_
   ·rintro j σ He hj ⟨⟨y8,y9,rfl⟩,sm4,zs4,hz4,po4,ez4⟩
    have hbi:=hpw j (by lia)
    have hbp:0<b ^ j:=Nat.pow_pos (by lia)
    have hdv:(i:Int) / ((b ^ j:Nat):Int) % (b:Int)=((i / b ^ j % b:Nat):Int):=rfl
    have hlt:i / b ^ j % b<b:=Nat.mod_lt _ (by lia)
    have zl:zs4.length≤1000:=by
     have e:=congrArg List.length ez4
     rw[bH,List.length_map,List.length_append] at e
     have z3:=jJ (m:=i) (g:=wdH b fg) (M:=25) fun x=>Nat.le_trans (pR b2) (by lia)
     have z5:=pR (b:=b) (h:=i) b2 (i:=j)
     lia
    refine⟨_,rfl,_,rfl,_,_,rfl,rfl,⟨by lia,by lia⟩,_,rfl,_,_,rfl,rfl,(by show (0:Int)<(b:Int);lia),?_⟩
    change bB 9 (V.int ((i:Int) / ((b ^ j:Nat):Int) % (b:Int))) _ _ _
    rw[hdv]
    refine⟨_,rfl,.inl ⟨rfl,_,SqL.of hz4⟩,_,rfl,_,_,rfl,rfl,_,rfl,_,_,rfl,⟨by lia,by lia,by lia,by lia⟩,fun L hL=>?_⟩
    have hn:((b:Int)-(((i / b ^ j % b:Nat):Int)+1)).toNat=b-i / b ^ j % b-1:=by lia
    rw[hn]
    refine uA (lo:=((i / b ^ j % b:Nat):Int)+1) (fun c=>ci2 (i,i+(c+1)*b ^ j)) (fun σ=>∃x,σ=[x,some (.int (i:Int)),some (.int ((i / b ^ j % b:Nat):Int)),some (.int ((b ^ j:Nat):Int))]) hL (by lia) ⟨_,rfl⟩ ?_ ?_
    ·rintro c σ H7 R' Kf hc ⟨x,rfl⟩ sm7 kt
     have hq:(((i / b ^ j % b:Nat):Int)+1+(c:Int)-((i / b ^ j % b:Nat):Int))*((b ^ j:Nat):Int)=(((c+1)*b ^ j:Nat):Int):=by rw[show ((i / b ^ j % b:Nat):Int)+1+(c:Int)-((i / b ^ j % b:Nat):Int)=((c+1:Nat):Int) by lia];exact(Int.natCast_mul _ _).symm
     refine⟨_,rfl,_,rfl,_,rfl,_,rfl,_,_,rfl,rfl,_,rfl,_,_,rfl,rfl,.inr ⟨by lia,by lia⟩,_,_,rfl,rfl,by show 2≤sizeLine;decide,fun t ht=>?_⟩
     rw[hq]
     exact kt _ _ ⟨_,rfl⟩ ht
    ·intro zs H7 s7 hL7 po7 ez7 _
     have e5:zp zs=(wdF b j i).map ci2:=by rw[ez7];unfold wdF;rw[List.map_map];rfl
     have l5:zs.length≤5:=by rw[← bH,e5,List.length_map];unfold wdF;rw[List.length_map,List.length_range];lia
     refine⟨R,L,_,_,rfl,rfl,s7 _ _ hz4,hL7,by rw[cL,cL];exact Nat.le_trans (show _≤1005 by lia) (by decide),?_⟩
     refine⟨_,rfl,_,rfl,_,_,rfl,rfl,.inr ⟨by lia,by lia⟩,⟨some (.int (0+(j:Int))),some (.int ((i / b ^ j % b:Nat):Int)),?_⟩,?_⟩
     ·rw[Nat.pow_succ];rfl
     ·have eW:wdH b (j+1) i=wdH b j i++wdF b j i:=by unfold wdH;rw[cX]
      rw[eW,← List.append_assoc,List.map_append]
      exact iA.ext hR sm4 hz4 po4 ez4 s7 po7 e5
   ·rintro σ He ⟨⟨y8,y9,rfl⟩,Pe⟩
    refine⟨⟨_,_,_,_,rfl⟩,?_⟩
    rw[cX]
    exact Pe
  ·rintro σ Hd ⟨⟨x3,x5,x6,x7,rfl⟩,sm,zs2,hR2,po2,ez2⟩
   refine⟨_,rfl,_,rfl,by show 2≤sizeLine;decide,fun t ht=>?_⟩
   have st:=aE (o:=.tup [.int ((b ^ fg:Nat):Int),.ref R]) ht
   have fr:∀ {a:Addr},H5 a=none→H a=none:=fun h=>sH5.free hp5.full h
   refine q t R (b ^ fg) zs2 _ (sH5.trans (aO.of (sm.trans st))) ((hp5.same sm).same st) (fr (sm.free ht)) (fr hR) aB (st _ _ hR2) (po2.same st) ?_
   rw[ez2]
   exact(zA f1 f2 b1 b2 hm).1.perm (jE (List.Perm.map _ aB9))
end
end K12
namespace L2
open PySem PySem.Spec PyProof.Rows
abbrev iS(h:Heap)(z TI TO a:Addr)(f:Bool):Prop:=
 h.get? z=some { cls:=.type "zip",dict:=none,data:=.fields #[rawInt a,.bool f,.bool false,.ref TI,.ref TO],slots:=#[] }
theorem zR:typeLookup (.type "zip") "__len__"=pure none:=by rw[typeLookup_type,builtinLookup_eq_fast];kernel_rfl
theorem wB:typeLookup (.type "zip") "__length_hint__"=pure none:=by rw[typeLookup_type,builtinLookup_eq_fast];kernel_rfl
section
variable {prog:Program} {w:World} {A:Around} {E:Value→Shared→Prop} {s:Shared}
theorem qV{z TI TO a:Addr}{f:Bool}{oa:Obj}{Q:Bool→Shared→Prop}(hz:iS s.heap z TI TO a f)(ha:s.heap.get? a=some oa)(hQ:∀h',iS h' z TI TO a true→Heap.SameBut z s.heap h'→Q false { s with heap:=h' }):wpAny (model prog w) A (Builtin.SmallTypes.ownedTupleIsFree (.ref z)) Q E s:=by
 unfold Builtin.SmallTypes.ownedTupleIsFree
 refine wpAny_bind (wpAny_field hz rfl (x:=rawInt a) rfl ?_)
 show wpAny _ _ (loadIfAlive ((a:Int).toNat) >>= _) _ _ _
 rw[Int.toNat_natCast]
 refine wpAny_bind (PySem.W.kdx_alive ha ?_)
 simp only[Option.isNone_some,Bool.false_eq_true,if_false]
 refine wpAny_bind (wpAny_field hz rfl (x:=.bool f) rfl ?_)
 cases f with
 |true=>
  rw[if_neg (show ¬ ((Value.bool true != Value.bool true)=true) from Bool.false_ne_true)]
  exact wpAny_pure (hQ s.heap hz (Heap.SameBut.refl _ _))
 |false=>
  rw[if_pos (show (Value.bool false != Value.bool true)=true from rfl)]
  refine wpAny_bind (wpAny_setField_rec hz (by simp) fun h₃ he₃ hs₃=>?_)
  exact wpAny_pure (hQ h₃ he₃ hs₃)
theorem aBv{z TI TO i1 i2 l1 l2 a:Addr}{f:Bool}{oa:Obj}{k1 k2:Nat}{xs ys:Array Value}{x y:Value}{Q:Option Value→Shared→Prop}(D:ZipApart z TI TO i1 i2 l1 l2)(hz:iS s.heap z TI TO a f)(ha:s.heap.get? a=some oa)(hTI:IsPair s.heap TI (.ref i1) (.ref i2))(h1:s.heap.IsListIter i1 l1 k1)(h2:s.heap.IsListIter i2 l2 k2)(hl1:s.heap.IsList l1 xs)(hl2:s.heap.IsList l2 ys)(hx:xs[k1]?=some x)(hy:ys[k2]?=some y)(hQ:∀h',iS h' z TI TO a true→h'.IsListIter i1 l1 (k1+1)→h'.IsListIter i2 l2 (k2+1)→IsPair h' s.heap.objs.size x y→h'.objs.size=s.heap.objs.size+1→
   (∀c o,c≠z→c≠i1→c≠i2→s.heap.get? c=some o→h'.get? c=some o)→Q (some (.ref s.heap.objs.size)) { s with heap:=h' }):
  wpAny (model prog w) A (pyNext (.ref z)) Q E s:=by
 have hT:s.TypeIs (.ref z) "zip":=⟨_,hz,rfl⟩
 unfold pyNext
 refine wpAny_bind (wpAny_attempt (wpAny_callSpecial?_slot (name:=Str.ofString "__next__") hT F.slot_zip_next
  (wpAny_call_entry F.slot_zip_next hT F.entry_zip_next ?_ (F.args_zip_next_1 _))))
 show wpAny _ _ (field (.ref z) 2 >>= _) _ _ _
 refine wpAny_bind (wpAny_field hz rfl (x:=.bool false) rfl ?_)
 show wpAny _ _ (field (.ref z) 3 >>= _) _ _ _
 refine wpAny_bind (wpAny_field hz rfl (x:=.ref TI) rfl ?_)
 refine wpAny_bind (wpAny_seqItems hTI rfl ?_)
 show wpAny _ _ (Builtin.SmallTypes.ownedTupleIsFree (.ref z) >>= _) _ _ _
 refine wpAny_bind (qV hz ha fun h₁ hz₁ hs₁=>?_)
 simp only[Bool.false_eq_true,if_false]
 refine wpAny_bind ?_
 show wpAny _ _ (forIn #[Value.ref i1,Value.ref i2] _ _) _ _ _
 rw[← Array.forIn_toList]
 simp only[List.forIn_cons,List.forIn_nil]
 refine wpAny_bind (wpAny_bind (wpAny_holding ?_))
 show wpAny _ _ (Builtin.SmallTypes.nextOf (.ref i1) >>= _) _ _ _
 refine wpAny_bind (wpAny_nextOf_list_item (h1.extBut hs₁.extBut D.i1z) (hl1.extBut hs₁.extBut D.l1z) hx fun h₂ h1₂ hs₂=>wpAny_pure ?_)
 refine wpAny_pure ?_
 refine wpAny_bind (wpAny_bind (wpAny_holding ?_))
 show wpAny _ _ (Builtin.SmallTypes.nextOf (.ref i2) >>= _) _ _ _
 refine wpAny_bind (wpAny_nextOf_list_item ((h2.extBut hs₁.extBut D.i2z).extBut hs₂.extBut D.i12.symm) ((hl2.extBut hs₁.extBut D.l2z).extBut hs₂.extBut D.l2i1) hy fun h₃ h2₃ hs₃=>wpAny_pure ?_)
 refine wpAny_pure (wpAny_pure ?_)
 dsimp only
 refine wpAny_bind (wpAny_newTuple ?_ (by show 2≤sizeLine;decide))
 have hsz:h₃.objs.size=s.heap.objs.size:=by rw[hs₃.1,hs₂.1,hs₁.1]
 refine wpAny_pure ⟨_,rfl,?_⟩
 refine wpAny_pure ?_
 show Q (some (.ref h₃.objs.size)) _
 rw[hsz]
 have up:∀c o,h₃.get? c=some o→(h₃.push { cls:=.type "tuple",data:=.seq #[x,y] }).get? c=some o:=fun c o e=>Heap.get?_push_of_some _ e
 refine hQ _ (up _ _ (hs₃.extBut _ _ D.i2z.symm (hs₂.extBut _ _ D.i1z.symm hz₁))) ((h1₂.extBut hs₃.extBut D.i12).at fun o e=>up _ o e) (h2₃.at fun o e=>up _ o e) ?_ (by rw[Heap.size_push,hsz]) fun c o c1 c3 c4 e=>up c o (hs₃.extBut _ _ c4 (hs₂.extBut _ _ c3 (hs₁.extBut _ _ c1 e)))
 rw[← hsz];exact Heap.get?_push_size _ rfl
theorem aCc{z TI TO i1 i2 l1 l2 a:Addr}{f:Bool}{oa:Obj}{k1:Nat}{xs:Array Value}{Q:Option Value→Shared→Prop}(hh:A.handled=none)(D:ZipApart z TI TO i1 i2 l1 l2)(hz:iS s.heap z TI TO a f)(ha:s.heap.get? a=some oa)(hTI:IsPair s.heap TI (.ref i1) (.ref i2))(h1:s.heap.IsListIter i1 l1 k1)(hl1:s.heap.IsList l1 xs)(hx:xs[k1]?=none)(hQ:∀h',(∀c o,c≠z→c≠TO→c≠i1→c≠i2→s.heap.get? c=some o→h'.get? c=some o)→Q none { s with heap:=h' }):
  wpAny (model prog w) A (pyNext (.ref z)) Q E s:=by
 have hT:s.TypeIs (.ref z) "zip":=⟨_,hz,rfl⟩
 unfold pyNext
 refine wpAny_bind (wpAny_attempt (wpAny_callSpecial?_slot (name:=Str.ofString "__next__") hT F.slot_zip_next
  (wpAny_call_entry F.slot_zip_next hT F.entry_zip_next ?_ (F.args_zip_next_1 _))))
 show wpAny _ _ (field (.ref z) 2 >>= _) _ _ _
 refine wpAny_bind (wpAny_field hz rfl (x:=.bool false) rfl ?_)
 show wpAny _ _ (field (.ref z) 3 >>= _) _ _ _
 refine wpAny_bind (wpAny_field hz rfl (x:=.ref TI) rfl ?_)
 refine wpAny_bind (wpAny_seqItems hTI rfl ?_)
 show wpAny _ _ (Builtin.SmallTypes.ownedTupleIsFree (.ref z) >>= _) _ _ _
 refine wpAny_bind (qV hz ha fun h₁ hz₁ hs₁=>?_)
 simp only[Bool.false_eq_true,if_false]
 refine wpAny_bind ?_
 show wpAny _ _ (forIn #[Value.ref i1,Value.ref i2] _ _) _ _ _
 rw[← Array.forIn_toList]
 simp only[List.forIn_cons,List.forIn_nil]
 refine wpAny_bind (wpAny_bind (wpAny_holding ?_))
 show wpAny _ _ (Builtin.SmallTypes.nextOf (.ref i1) >>= _) _ _ _
 refine wpAny_bind (wpAny_nextOf_list_end hh (h1.extBut hs₁.extBut D.i1z) (hl1.extBut hs₁.extBut D.l1z) hx fun h₂ e hs₂ he=>?_)
 obtain⟨o,ho,hc⟩:=he
 refine wpAny_bind (wpAny_isInstance (T:="StopIteration") (b:=true) ⟨o,ho,hc⟩ isSubtype_stop ?_)
 exact wpAny_pure (hQ _ fun c o c1 _ c3 _ x=>hs₂ _ _ c3 (hs₁.extBut _ _ c1 x))
structure ZSt(h:Heap)(z TI TO i1 i2 l1 l2:Addr)(i:Nat)(xs ys:Array Value)(as:List Addr):Prop where
 hz:(as=[]∧IsZip h z TI TO .none)∨∃a r f,as=a::r∧iS h z TI TO a f
 ti:IsPair h TI (.ref i1) (.ref i2)
 to:∃u v,IsPair h TO u v
 r1:h.IsListIter i1 l1 i
 r2:h.IsListIter i2 l2 i
 x:h.IsList l1 xs
 y:h.IsList l2 ys
 len:as.length=i
 pr:∀ (j:Nat) a,as[j]?=some a→∃x y,xs[j]?=some x∧ys[j]?=some y∧IsPair h a x y
theorem ZSt.keep{h h':Heap}{z TI TO i1 i2 l1 l2 S:Addr}{i:Nat}{xs ys:Array Value}{as:List Addr}(t:ZSt h z TI TO i1 i2 l1 l2 i xs ys as)(k:∀b o,b≠S→h.get? b=some o→h'.get? b=some o)(n1:z≠S)(n2:TI≠S)(n3:TO≠S)(n4:i1≠S)(n5:i2≠S)(n6:l1≠S)(n7:l2≠S)(n8:∀a∈as,a≠S):ZSt h' z TI TO i1 i2 l1 l2 i xs ys as:=by
 obtain⟨hz,ti,⟨u,v,to⟩,r1,r2,x,y,len,pr⟩:=t
 refine⟨?_,k _ _ n2 ti,⟨u,v,k _ _ n3 to⟩,r1.at fun o e=>k _ _ n4 e,r2.at fun o e=>k _ _ n5 e,?_,?_,len,fun j a hj=>?_⟩
 ·rcases hz with ⟨e,q⟩|⟨a,r,f,e,q⟩
  ·exact .inl ⟨e,k _ _ n1 q⟩
  ·exact .inr ⟨a,r,f,e,k _ _ n1 q⟩
 ·obtain⟨o,e,q⟩:=x;exact⟨o,k _ _ n6 e,q⟩
 ·obtain⟨o,e,q⟩:=y;exact⟨o,k _ _ n7 e,q⟩
 ·obtain⟨u,v,e1,e2,e3⟩:=pr j a hj
  exact⟨u,v,e1,e2,k _ _ (n8 a (List.mem_of_getElem? hj)) e3⟩
theorem aCd{S z TI TO i1 i2 l1 l2 lo:Addr}{xs ys:Array Value}{R:Result→Shared→Prop}(hh:A.handled=none)(D:ZipApart z TI TO i1 i2 l1 l2)(hn:xs.size≤1000)(hxy:xs.size=ys.size)(res:Value){h₁:Heap}(n1:z≠S)(n2:TI≠S)(n3:TO≠S)(n4:i1≠S)(n5:i2≠S)(n6:l1≠S)(n7:l2≠S)(hlo:S<lo∧z<lo∧TO<lo∧i1<lo∧i2<lo)(hR:∀ (h':Heap) (tk:Nat) (acc:Array Value) (c:Nat) (as:List Addr),(∀b o,b≠S→b≠z→b≠TO→b≠i1→b≠i2→h₁.get? b=some o→h'.get? b=some o)→h'.get? S=some { cls:=.type "list",dict:=none,data:=.seq acc c,slots:=#[] }→as.length=xs.size→as.Nodup→(∀a∈as,lo≤a)→
   (∀ (j:Nat) a,as[j]?=some a→∃x y,xs[j]?=some x∧ys[j]?=some y∧IsPair h' a x y)→acc.toList=as.map Value.ref→R (.ok (.ret res)) { s with heap:=h',toks:=tk }):
  ∀ (k i:Nat) (h:Heap) (tk c:Nat) (acc:Array Value) (as:List Addr),xs.size-i=k→i≤xs.size→ZSt h z TI TO i1 i2 l1 l2 i xs ys as→lo≤h.objs.size→(∀b o,b≠S→b≠z→b≠TO→b≠i1→b≠i2→h₁.get? b=some o→h.get? b=some o)→
   h.get? S=some { cls:=.type "list",dict:=none,data:=.seq acc c,slots:=#[] }→acc.toList=as.map Value.ref→as.Nodup→(∀a∈as,lo≤a)→
   codeAny (model prog w) A (.builtin "list.extend.loop" ⟨[.ref S,.ref z,res],[]⟩) R { s with heap:=h,toks:=tk }:=by
 obtain⟨m1,m2,m3,m4,m5⟩:=hlo
 intro k
 induction k with
 |zero=>
  intro i h tk c acc as hk hi st hl hkeep hS hacc nd ab
  have hin:i=xs.size:=by lia
  have fin:∀h',(∀c o,c≠z→c≠TO→c≠i1→c≠i2→h.get? c=some o→h'.get? c=some o)→R (.ok (.ret res)) { s with heap:=h',toks:=tk }:=fun h' kp=>by
   refine hR h' tk acc c as (fun b o h1 h2 h3 h4 h5 e=>kp b o h2 h3 h4 h5 (hkeep b o h1 h2 h3 h4 h5 e)) (kp S _ n1.symm n3.symm n4.symm n5.symm hS) (by rw[st.len,hin]) nd ab (fun j a hj=>?_) hacc
   obtain⟨u,v,e1,e2,e3⟩:=st.pr j a hj
   have:=ab a (List.mem_of_getElem? hj)
   exact⟨u,v,e1,e2,kp a _ (Nat.ne_of_gt (by lia)) (Nat.ne_of_gt (by lia)) (Nat.ne_of_gt (by lia)) (Nat.ne_of_gt (by lia)) e3⟩
  refine codeAny_builtin PySem.F.entry_extend_loop ?_
  rw[Around.under_plainId PySem.F.plain_extend_loop _]
  show wpAny _ A.in1 (pyNext (.ref z) >>= _) _ _ _
  obtain⟨u,v,gto⟩:=st.to
  rcases st.hz with ⟨e,q⟩|⟨a,r,f,e,q⟩
  ·exact wpAny_bind (wpAny_pyNext_zip_end (s:={ s with heap:=h,toks:=tk }) (A:=A.in1) hh D q st.ti gto st.r1 st.r2 st.x st.y (.inl (by simp;lia)) fun h' kp=>wpAny_pure (fin h' kp))
  ·obtain⟨u',v',_,_,ga⟩:=st.pr 0 a (by rw[e];rfl)
   exact wpAny_bind (aCc (s:={ s with heap:=h,toks:=tk }) (A:=A.in1) hh D q ga st.ti st.r1 st.x (by simp;lia) fun h' kp=>wpAny_pure (fin h' kp))
 |succ k ih=>
  intro i h tk c acc as hk hi st hl hkeep hS hacc nd ab
  have hlt:i<xs.size:=by lia
  have hsz:acc.size=i:=by rw[← Array.length_toList,hacc,List.length_map,st.len]
  have hx:xs[i]?=some xs[i]:=by simp[hlt]
  have hy:ys[i]?=some (ys[i]'(by lia)):=by simp
  have hal:∀a∈as,a<h.objs.size:=fun a ha=>by
   obtain⟨j,hj⟩:=List.mem_iff_getElem?.mp ha
   obtain⟨_,_,_,_,e⟩:=st.pr j a hj
   exact Heap.lt_size e
  have go:∀h' f,(∃u v,IsPair h' TO u v)→iS h' z TI TO (as.headD h.objs.size) f→h'.IsListIter i1 l1 (i+1)→h'.IsListIter i2 l2 (i+1)→IsPair h' h.objs.size xs[i] (ys[i]'(by lia))→h'.objs.size=h.objs.size+1→(∀c o,c≠z→c≠TO→c≠i1→c≠i2→h.get? c=some o→h'.get? c=some o)→
    wpAny (model prog w) A.in1 (updateSeq S (·.push (Value.ref h.objs.size)) >>= fun _=>again (.builtin "list.extend.loop" ⟨[.ref S,.ref z,res],[]⟩)) (fun fin s'=>match fin with|.done f=>R (.ok f) s'|.again c'=>c'.quiet=true∧codeAny (model prog w) A c' R s') (fun e s'=>R (.error e) s') { s with heap:=h',toks:=tk }:=fun h' f ⟨u,v,gto⟩ gz g1 g2 gp gs kp=>by
   have hS':=kp S _ n1.symm n3.symm n4.symm n5.symm hS
   have up:∀b o,b≠S→h'.get? b=some o→(h'.update S (Obj.mapSeq (·.push (Value.ref h.objs.size)))).get? b=some o:=fun b o hb e=>(Heap.get?_update_other _ _ (Ne.symm hb)).trans e
   have hS2:=Heap.get?_update_self (Obj.mapSeq (·.push (Value.ref h.objs.size))) hS' rfl
   have hn':∀a∈as++[h.objs.size],lo≤a:=fun a ha=>by
    rcases List.mem_append.mp ha with q|q
    ·exact ab a q
    ·rw[List.mem_singleton.mp q];exact hl
   have hnS:∀a∈as++[h.objs.size],a≠S:=fun a ha=>Nat.ne_of_gt (Nat.lt_of_lt_of_le m1 (hn' a ha))
   refine wpAny_bind (wpAny_updateSeq hS' rfl (wpAny_pure ⟨plainId_quiet PySem.F.plain_extend_loop _,ih (i+1) _ tk _ (acc.push (Value.ref h.objs.size)) (as++[h.objs.size]) (by lia) hlt ?_ ?_ (fun b o h1 h2 h3 h4 h5 e=>up b o h1 (kp b o h2 h3 h4 h5 (hkeep b o h1 h2 h3 h4 h5 e))) hS2 (by rw[Array.toList_push,hacc,List.map_append];rfl) ?_ hn'⟩) (by rw[hsz];exact Nat.le_trans (show i≤1000 by lia) (by decide)) (by show (acc.push (Value.ref h.objs.size)).size≤sizeLine+1;rw[Array.size_push,hsz];exact Nat.le_trans (show i+1≤1001 by lia) (by decide)))
   ·refine ZSt.keep (h:=h') ⟨.inr ?_,kp _ _ D.TIz D.TITO D.TIi1 D.TIi2 st.ti,⟨u,v,gto⟩,g1,g2,?_,?_,by rw[List.length_append,st.len];rfl,fun j b hj=>?_⟩ up n1 n2 n3 n4 n5 n6 n7 hnS
    ·cases as with
     |nil=>exact⟨_,[],f,rfl,gz⟩
     |cons a r=>exact⟨a,r++[h.objs.size],f,rfl,gz⟩
    ·obtain⟨o,e,q⟩:=st.x;exact⟨o,kp _ _ D.l1z D.l1TO D.l1i1 D.l1i2 e,q⟩
    ·obtain⟨o,e,q⟩:=st.y;exact⟨o,kp _ _ D.l2z D.l2TO D.l2i1 D.l2i2 e,q⟩
    ·rcases Nat.lt_trichotomy j as.length with h1|h1|h1
     ·rw[List.getElem?_append_left h1] at hj
      obtain⟨u',v',e1,e2,e3⟩:=st.pr j b hj
      have:=ab b (List.mem_of_getElem? hj)
      exact⟨u',v',e1,e2,kp b _ (Nat.ne_of_gt (by lia)) (Nat.ne_of_gt (by lia)) (Nat.ne_of_gt (by lia)) (Nat.ne_of_gt (by lia)) e3⟩
     ·subst h1
      have hb:h.objs.size=b:=by simpa using hj
      subst hb
      rw[st.len]
      exact⟨_,_,hx,hy,gp⟩
     ·have hnone:(as++[h.objs.size])[j]?=none:=List.getElem?_eq_none (by rw[List.length_append,List.length_singleton];lia)
      rw[hnone] at hj;cases hj
   ·rw[Heap.size_update,gs];lia
   ·exact List.nodup_append.mpr ⟨nd,by simp,fun a ha b hb=>by rw[List.mem_singleton.mp hb];exact Nat.ne_of_lt (hal a ha)⟩
  refine codeAny_builtin PySem.F.entry_extend_loop ?_
  rw[Around.under_plainId PySem.F.plain_extend_loop _]
  show wpAny _ A.in1 (pyNext (.ref z) >>= _) _ _ _
  obtain⟨u,v,gto⟩:=st.to
  rcases st.hz with ⟨e,q⟩|⟨a,r,f,e,q⟩
  ·refine wpAny_bind (wpAny_pyNext_zip_item (s:={ s with heap:=h,toks:=tk }) D q st.ti gto st.r1 st.r2 st.x st.y hx hy fun h' a1 a2 a3 a4 a5 a6 a7=>?_)
   exact go h' false ⟨_,_,a2⟩ (by rw[e];exact a1) a3 a4 a5 a6 a7
  ·obtain⟨u',v',_,_,ga⟩:=st.pr 0 a (by rw[e];rfl)
   refine wpAny_bind (aBv (s:={ s with heap:=h,toks:=tk }) D q ga st.ti st.r1 st.r2 st.x st.y hx hy fun h' a1 a3 a4 a5 a6 a7=>?_)
   exact go h' true ⟨u,v,a7 TO _ D.TOz D.TOi1 D.TOi2 gto⟩ (by rw[e];exact a1) a3 a4 a5 a6 fun c o c1 _ c3 c4 e=>a7 c o c1 c3 c4 e
theorem zS{z TI TO i1 i2 l1 l2:Addr}{xs ys:Array Value}{R:Result→Shared→Prop}(hh:A.handled=none)(D:ZipApart z TI TO i1 i2 l1 l2)(hn:xs.size≤1000)(hxy:xs.size=ys.size)(S:Addr)(c₀:Nat)(hS:s.heap.get? S=some { cls:=.type "list",data:=.seq #[] c₀ })(n1:z≠S)(n2:TI≠S)(n3:TO≠S)(n4:i1≠S)(n5:i2≠S)(n6:l1≠S)(n7:l2≠S)(st:ZSt s.heap z TI TO i1 i2 l1 l2 0 xs ys [])(hR:∀ (h':Heap) (tk:Nat) (acc:Array Value) (c:Nat) (as:List Addr),(∀b o,b≠S→b≠z→b≠TO→b≠i1→b≠i2→s.heap.get? b=some o→h'.get? b=some o)→h'.get? S=some { cls:=.type "list",dict:=none,data:=.seq acc c,slots:=#[] }→as.length=xs.size→as.Nodup→(∀a∈as,s.heap.objs.size≤a)→
   (∀ (j:Nat) a,as[j]?=some a→∃x y,xs[j]?=some x∧ys[j]?=some y∧IsPair h' a x y)→acc.toList=as.map Value.ref→R (.ok (.ret .none)) { s with heap:=h',toks:=tk }):
  wpAny (model prog w) A.in1 (Builtin.List.listExtendWith (.ref S) (.ref z) .none)
   (fun fin s'=>match fin with|.done f=>R (.ok f) s'|.again c'=>c'.quiet=true∧codeAny (model prog w) A c' R s') (fun e s'=>R (.error e) s') s:=by
 have gz:IsZip s.heap z TI TO .none:=by
  rcases st.hz with ⟨_,q⟩|⟨a,r,f,e,q⟩
  ·exact q
  ·cases e
 have hT:s.TypeIs (.ref z) "zip":=⟨_,gz,rfl⟩
 unfold Builtin.List.listExtendWith
 refine wpAny_bind (wpAny_typeOf hT ?_)
 have h1:Builtin.List.listSameRef (.ref S) (.ref z)=false:=by simp[Builtin.List.listSameRef,n1.symm]
 have h2:(Value.type "zip"==Value.type "list")=false:=by decide
 have h3:(Value.type "zip"==Value.type "tuple")=false:=by decide
 simp only[h1,h2,h3,Bool.or_false,Bool.false_eq_true,if_false]
 refine wpAny_bind (wpAny_pyIter_zip gz ?_)
 refine wpAny_bind (wpAny_holding ?_)
 unfold Builtin.List.listLengthHint
 refine wpAny_bind (wpAny_specialOf hT zR ?_)
 show wpAny _ A.in1 (specialOf (Value.ref z) (Str.ofString "__length_hint__") >>= _) _ _ _
 refine wpAny_bind (wpAny_specialOf hT wB ?_)
 refine wpAny_pure ?_
 show wpAny _ A.in1 (rule "list.extend.makes-room" >>= fun _=>Builtin.List.listTouch (.ref S) >>= fun _=>
  again (.builtin "list.extend.loop" ⟨[.ref S,.ref z,.none],[]⟩)) _ _ _
 refine wpAny_bind (wpAny_rule ?_)
 refine wpAny_bind ?_
 show wpAny _ A.in1 (updateSeq S (·.push .none) >>= fun _=>updateSeq S (·.pop)) _ _ _
 refine wpAny_bind (wpAny_updateSeq hS rfl ?_)
 have hS₂:=Heap.get?_update_self (Obj.mapSeq (·.push Value.none)) hS rfl
 refine wpAny_updateSeq (hz:=by seq_fits) hS₂ rfl ?_
 have hS₃:=Heap.get?_update_self (Obj.mapSeq (·.pop)) hS₂ rfl
 have oth:∀b o,b≠S→s.heap.get? b=some o→((s.heap.update S (Obj.mapSeq (·.push Value.none))).update S (Obj.mapSeq (·.pop))).get? b=some o:=
  fun b o hb e=>(Heap.get?_update_other _ _ (Ne.symm hb)).trans ((Heap.get?_update_other _ _ (Ne.symm hb)).trans e)
 have l1':∀ {a k x},s.heap.IsListIter a k x→a<s.heap.objs.size:=fun h=>let ⟨o,e,_⟩:=h;Heap.lt_size e
 obtain⟨u,v,gto⟩:=st.to
 refine wpAny_pure ⟨plainId_quiet F.plain_extend_loop _,aCd (s:=s) (h₁:=s.heap) (lo:=s.heap.objs.size) hh D hn hxy .none n1 n2 n3 n4 n5 n6 n7 ⟨Heap.lt_size hS,Heap.lt_size gz,Heap.lt_size gto,l1' st.r1,l1' st.r2⟩ hR xs.size 0 _ s.toks _ #[] [] (Nat.sub_zero _) (Nat.zero_le _)
  (st.keep oth n1 n2 n3 n4 n5 n6 n7 fun a ha=>(nomatch ha)) (by rw[Heap.size_update,Heap.size_update];exact Nat.le_refl _) (fun b o hb _ _ _ _ e=>oth b o hb e) hS₃ rfl List.nodup_nil fun a ha=>(nomatch ha)⟩
theorem rC{z TI TO i1 i2 l1 l2:Addr}{xs ys:Array Value}{Q:Value→Shared→Prop}(hh:A.handled=none)(D:ZipApart z TI TO i1 i2 l1 l2)(hn:xs.size≤1000)(hxy:xs.size=ys.size)(st:ZSt s.heap z TI TO i1 i2 l1 l2 0 xs ys [])(hQ:∀ (h':Heap) (tk:Nat) (acc:Array Value) (c:Nat) (as:List Addr),(∀b o,b≠z→b≠TO→b≠i1→b≠i2→s.heap.get? b=some o→h'.get? b=some o)→h'.get? s.heap.objs.size=some { cls:=.type "list",dict:=none,data:=.seq acc c,slots:=#[] }→as.length=xs.size→as.Nodup→(∀a∈as,s.heap.objs.size<a)→
   (∀ (j:Nat) a,as[j]?=some a→∃x y,xs[j]?=some x∧ys[j]?=some y∧IsPair h' a x y)→acc.toList=as.map Value.ref→Q (.ref s.heap.objs.size) { s with heap:=h',toks:=tk }):
  wpAny (model prog w) A (call (.type "list") [.ref z]) Q E s:=by
 refine callType_codes (Q₁:=fun obj s₁=>obj=.ref s.heap.objs.size∧s₁={ s with heap:=s.heap.push { cls:=.type "list",data:=.seq #[] } }) PySem.F.called_list (PySem.F.typeCall_list_1 _) PySem.F.entry_list_init
  (code_list_new _ ⟨rfl,rfl⟩) fun obj s₁ h₁=>?_
 obtain⟨rfl,rfl⟩:=h₁
 have hS:(s.heap.push { cls:=.type "list",data:=.seq #[] }).get? s.heap.objs.size=some { cls:=.type "list",data:=.seq #[] }:=Heap.get?_push_size _ rfl
 have gz:IsZip s.heap z TI TO .none:=by
  rcases st.hz with ⟨_,q⟩|⟨a,r,f,e,q⟩
  ·exact q
  ·cases e
 obtain⟨u,v,gto⟩:=st.to
 have l1':∀ {a k x},s.heap.IsListIter a k x→a≠s.heap.objs.size:=fun h=>let ⟨o,e,_⟩:=h;Nat.ne_of_lt (Heap.lt_size e)
 have l2':∀ {a x},s.heap.IsList a x→a≠s.heap.objs.size:=fun h=>let ⟨o,e,_⟩:=h;Nat.ne_of_lt (Heap.lt_size e)
 have n1:=Nat.ne_of_lt (Heap.lt_size gz)
 have n2:=Nat.ne_of_lt (Heap.lt_size st.ti)
 have n3:=Nat.ne_of_lt (Heap.lt_size gto)
 have n4:=l1' st.r1
 have n5:=l1' st.r2
 have n6:=l2' st.x
 have n7:=l2' st.y
 have st1:=st.keep (h':=s.heap.push { cls:=.type "list",data:=.seq #[] }) (S:=s.heap.objs.size) (fun b o _ e=>Heap.get?_push_of_some _ e) n1 n2 n3 n4 n5 n6 n7 fun a ha=>(nomatch ha)
 refine⟨⟨_,hS,rfl⟩,PySem.F.args_list_init_2 _ _,?_⟩
 show wpAny _ A.in1.in1 (do let old ← Builtin.List.listItems (.ref s.heap.objs.size);Builtin.List.listUpdate (.ref s.heap.objs.size) (fun _=>#[]);letGo old.toList.reverse;Builtin.List.listExtendWith (.ref s.heap.objs.size) (.ref z) .none) _ _ _
 refine wpAny_bind ?_
 unfold Builtin.List.listItems
 refine wpAny_bind (wpAny_seqItems hS rfl (wpAny_pure ?_))
 show wpAny _ A.in1.in1 (updateSeq s.heap.objs.size (fun _=>#[]) >>= fun _=>letGo (#[]:Array Value).toList.reverse >>= fun _=>Builtin.List.listExtendWith (.ref s.heap.objs.size) (.ref z) .none) _ _ _
 refine wpAny_bind (wpAny_updateSeq hS rfl ?_)
 have hS₂:=Heap.get?_update_self (Obj.mapSeq (fun _=>(#[]:Array Value))) hS rfl
 have oth:∀b o,b≠s.heap.objs.size→(s.heap.push { cls:=.type "list",data:=.seq #[] }).get? b=some o→((s.heap.push { cls:=.type "list",data:=.seq #[] }).update s.heap.objs.size (Obj.mapSeq (fun _=>(#[]:Array Value)))).get? b=some o:=
  fun b o hb e=>(Heap.get?_update_other _ _ (Ne.symm hb)).trans e
 refine wpAny_bind (wpAny_letGo ?_)
 refine zS (A:=A.in1) hh D hn hxy _ _ hS₂ n1 n2 n3 n4 n5 n6 n7 (st1.keep oth n1 n2 n3 n4 n5 n6 n7 fun a ha=>(nomatch ha)) fun h' tk acc c as hk hS' hl hnd hab hpr hacc=>⟨rfl,?_⟩
 refine hQ h' tk acc c as (fun b o b1 b2 b3 b4 e=>hk b o (Nat.ne_of_lt (Heap.lt_size e)) b1 b2 b3 b4 (oth _ _ (Nat.ne_of_lt (Heap.lt_size e)) (Heap.get?_push_of_some _ e))) hS' hl hnd (fun a ha=>?_) hpr hacc
 have:=hab a ha
 rw[Heap.size_update,Heap.size_push] at this
 exact this
end
theorem Inv.many{X:Cx}{pins:List (Addr×Obj)}{σ:St}{H H':Hp}{s:Shared}{h':Heap}{t':Nat}(I:Inv X pins σ H s)(k:∀b u,s.heap.get? b=some u→h'.get? b=some u)(old:∀b,b<s.heap.objs.size→H' b=H b)(new:∀b o,s.heap.objs.size≤b→H' b=some o→bU X.prog X.w H' h' b o):Inv X pins σ H' { s with heap:=h',toks:=t' }:=by
 have sm:∀b o,H b=some o→H' b=some o:=fun b o e=>by rw[old b (I.hok b o e).lt];exact e
 refine I.un ⟨fun b u q _ _ _=>k b u q,fun b u q _ _ _=>⟨u.slots,k b u q⟩,fun b u q n _=>by rw[old b (Heap.lt_size q)];exact n,fun b u q _=>⟨u,k b u q⟩,fun b xs q=>sm b _ q,fun b u xs q=>sm b _ q,fun b ps q=>⟨#[],by rw[sm b _ q];simp⟩⟩ fun b o e=>?_
 by_cases hb:b<s.heap.objs.size
 ·rw[old b hb] at e
  exact(I.hok b o e).stay (fun d u _ q=>k d u q) (fun d q=>sm d _ q) fun d xs q=>sm d _ q
 ·exact new b o (Nat.not_lt.mp hb) e
open K12 in
def layZ(H:Hp)(S:Addr)(zs:Zs):Hp:=fun b=>if b=S then some (.lst (zr zs)) else match zs.find? (fun z=>decide (z.1=b)) with
 |some z=>some (prT z.2)
 |none=>H b
open K12 in
theorem xP:∀ {zs:Zs} {z:Addr×Int×Int},(zs.map (·.1)).Nodup→z∈zs→zs.find? (fun y=>decide (y.1=z.1))=some z
 |y::zs,z,nd,hz=>by
  obtain⟨n1,n2⟩:=List.nodup_cons.mp nd
  rw[List.find?_cons]
  rcases List.mem_cons.mp hz with rfl|q
  ·simp
  ·have:y.1≠z.1:=fun e=>n1 (List.mem_map.mpr ⟨z,q,e.symm⟩)
   rw[decide_eq_false this]
   exact xP n2 q
section
open K12
variable {X:Cx}
def tLZ(K:PySem.W.Frag)(ta:TA):TE:=fun σ H Q=>ta σ H fun vs H1=>∃ (a b:Addr) (ns ms:List Int),vs=[.ref a,.ref b]∧SqL K H1 a (ns.map V.int)∧SqL K H1 b (ms.map V.int)∧ns.length=ms.length∧ns.length≤1000∧
 ∀ (l:Addr) (zs:Zs) (H':Hp),Same H1 H'→H1 l=none→H' l=some (.lst (zr zs))→K12.PO H' zs→zp zs=ns.zip ms→Q (.ref l) H'
theorem nJ:∀ {ns:List Int} {us:List Value} {j:Nat} {x:Value},Vals (ns.map V.int) us→us[j]?=some x→∃n t,ns[j]?=some n∧x=.int n t
 |[],_,j,x,.nil,h=>by cases h
 |n::ns,_,0,x,.cons ⟨t,e⟩ r,h=>by subst e;cases h;exact⟨n,t,rfl,rfl⟩
 |n::ns,_,j+1,x,.cons _ r,h=>nJ (ns:=ns) r h
theorem xQ:∀ {zs:Zs},Vals (zr zs) (zs.map fun z=>Value.ref z.1)
 |[]=>.nil
 |z::zs=>.cons rfl (xQ (zs:=zs))
theorem aE3{a b:Expr}{ta:TA}{p p2 pos pos2:Pos}(hc:X.calm=true)(hg:Gl X "zip")(hm:X.mg "zip"=none)(hg2:Gl X "list")(hm2:X.mg "list"=none)(ha:PA X [a,b] ta)(hs:starEach [a,b] X.env=[(false,eval a X.env),(false,eval b X.env)]:=by rfl)(hs2:starEach [b] X.env=[(false,eval b X.env)]:=by rfl)(he:starEach [.Call (.Name "zip" p) [a,b] [] pos] X.env=[(false,eval (.Call (.Name "zip" p) [a,b] [] pos) X.env)]:=by rfl)(he2:starEach [] X.env=[]:=by rfl):
  PE X (.Call (.Name "list" p2) [.Call (.Name "zip" p) [a,b] [] pos] [] pos2) (tLZ X.K ta):=by
 intro pins s σ H Q I h
 refine wpAny_Call_Name_kw (fF I hg2 hm2 PyProof.Rows.boot_list ?_)
 refine callWith_type1 ?_ (by rw[he,he2]) (by rw[he2];rfl)
 rw[he]
 show wpAny _ _ (spliced ((false,eval (.Call (.Name "zip" p) [a,b] [] pos) X.env)::backTo pos2 [])) _ _ s
 refine Calls.spliced_cons ?_
 refine Call_ (fF I hg hm PyProof.Rows.boot_zip (PyProof.Rows.callWith_type1 (thn (ha pos pins s σ H _ I h) fun us s1 ⟨vs,H1,I1,r1,q1⟩=>?_) (by rw[hs,hs2]) (by rw[hs2];rfl)))
 obtain⟨l,m,ns,ms,rfl,hl,hm',hxy,hle,q⟩:=q1
 obtain⟨u1,u2,rfl,ru1,ru2⟩:=r1.two
 obtain rfl:u1=Value.ref l:=ru1
 obtain rfl:u2=Value.ref m:=ru2
 obtain⟨its,rv,pt,_⟩:=I1.list hl
 obtain⟨its2,rv2,pt2,_⟩:=I1.list hm'
 have il:its.length=ns.length:=by rw[← rv.length,List.length_map]
 have il2:its2.length=ms.length:=by rw[← rv2.length,List.length_map]
 have hlt:l<s1.heap.objs.size:=by obtain⟨o,e,_⟩:=pt.isList;exact Heap.lt_size e
 have hlt2:m<s1.heap.objs.size:=by obtain⟨o,e,_⟩:=pt2.isList;exact Heap.lt_size e
 refine call_zip_2 pt.isList pt2.isList fun h' gz gi gq r1 r2 gs k=>?_
 refine Calls.spliced_nil ?_
 have kl:∀ {a x},s1.heap.IsList a x→h'.IsList a x:=fun z=>let ⟨o,e,r⟩:=z;⟨o,k _ _ e,r⟩
 refine rC (s:={ s1 with heap:=h' }) (I1.ok.hd hc) (zipApart_new hlt hlt2) (by simp;lia) (by simp;lia) ⟨.inl ⟨rfl,gz⟩,gi,⟨_,_,gq⟩,r1,r2,kl pt.isList,kl pt2.isList,rfl,fun j a hj=>by simp at hj⟩ fun h2 tk acc c as k2 hS hal nd ab pr hacc=>?_
 have kk:∀b u,s1.heap.get? b=some u→h2.get? b=some u:=fun b u e=>by
  have:=Heap.lt_size e
  exact k2 b u (Nat.ne_of_lt (by lia)) (Nat.ne_of_lt (by lia)) (Nat.ne_of_lt (by lia)) (Nat.ne_of_lt (by lia)) (k b u e)
 have gs':h'.objs.size=s1.heap.objs.size+5:=gs
 have hal':as.length=ns.length:=by rw[hal];simp;exact il
 let zs:Zs:=as.zip (ns.zip ms)
 have z1:zs.map (·.1)=as:=List.map_fst_zip (by rw[List.length_zip];lia)
 have z2:zp zs=ns.zip ms:=List.map_snd_zip (by rw[List.length_zip];lia)
 have nd':(zs.map (·.1)).Nodup:=by rw[z1];exact nd
 have zpr:∀z∈zs,h'.objs.size<z.1∧∃t u,IsPair h2 z.1 (.int z.2.1 t) (.int z.2.2 u):=fun z hz=>by
  obtain⟨j,hj⟩:=List.mem_iff_getElem?.mp hz
  obtain⟨e1,e2⟩:=List.getElem?_zip_eq_some.mp hj
  obtain⟨e3,e4⟩:=List.getElem?_zip_eq_some.mp e2
  obtain⟨x,y,f1,f2,f3⟩:=pr j z.1 e1
  obtain⟨n,t,g1,rfl⟩:=nJ rv (by simpa using f1)
  obtain⟨n',u,g2,rfl⟩:=nJ rv2 (by simpa using f2)
  rw[e3] at g1;rw[e4] at g2
  cases g1;cases g2
  exact⟨ab _ (List.mem_of_getElem? e1),t,u,f3⟩
 have fS:∀z∈zs,z.1≠h'.objs.size:=fun z hz=>Nat.ne_of_gt (zpr z hz).1
 have po:K12.PO (layZ H1 h'.objs.size zs) zs:=fun z hz=>by
  unfold layZ
  rw[if_neg (fS z hz),xP nd' hz]
 have hl':(layZ H1 h'.objs.size zs) h'.objs.size=some (.lst (zr zs)):=by unfold layZ;rw[if_pos rfl]
 have old:∀b,b<s1.heap.objs.size→(layZ H1 h'.objs.size zs) b=H1 b:=fun b hb=>by
  unfold layZ
  rw[if_neg (Nat.ne_of_lt (by lia)),List.find?_eq_none.mpr fun z hz q=>?_]
  have:=(zpr z hz).1
  have:=of_decide_eq_true q
  lia
 have hrl:acc.toList=zs.map fun z=>Value.ref z.1:=by rw[hacc,← z1,List.map_map];rfl
 have I2:Inv X pins σ (layZ H1 h'.objs.size zs) { s1 with heap:=h2,toks:=tk }:=I1.many (t':=tk) kk old fun b o hb e=>by
  unfold layZ at e
  by_cases eb:b=h'.objs.size
  ·subst eb
   rw[if_pos rfl] at e
   cases e
   refine⟨?_,acc.toList,c,?_,by simpa using hS⟩
   ·rw[cL,← bH,z2,List.length_zip];exact Nat.le_trans (show _≤1000 by lia) (by decide)
   ·rw[hrl]
    exact xQ
  ·rw[if_neg eb] at e
   cases f:zs.find? (fun z=>decide (z.1=b)) with
   |none=>
    rw[f] at e
    have:H1 b=some o:=e
    exact absurd (I1.hok b o this).lt (by lia)
   |some z=>
    rw[f] at e
    cases e
    have hz:=List.mem_of_find?_eq_some f
    obtain rfl:z.1=b:=of_decide_eq_true (List.find?_some (p:=fun z:Addr×Int×Int=>decide (z.1=b)) f)
    obtain⟨_,t,u,gp⟩:=zpr z hz
    exact⟨by show 2≤sizeLine;decide,[.int z.2.1 t,.int z.2.2 u],.cons ⟨_,rfl⟩ (.cons ⟨_,rfl⟩ .nil),_,gp,rfl,_,rfl,rfl⟩
 exact⟨.ref h'.objs.size,_,I2,rfl,q _ zs _ (fun b o e=>by rw[old b (I1.hok b o e).lt];exact e) (I1.hok.fresh (by lia)) hl' po z2⟩
end
end L2
namespace K12
open PySem L2 NetM
abbrev sOne:Stmt:=top 39
abbrev sRen:Stmt:=top 40
theorem jQ:(["_law_turn","_law_left","_law_pot_here"]:List Str).Nodup:=by decide +kernel
theorem uS:(["_law_tie","_law_found"]:List Str).Nodup:=by decide +kernel
theorem oP:(["_law_house","_law_counts"]:List Str).Nodup:=by decide +kernel
theorem lJ:(["_law_k","_law_left","_law_pot_here"]:List Str).Nodup:=by decide +kernel
theorem gY:(["_law_one","_law_other","_law_names"]:List Str).Nodup:=by decide +kernel
abbrev tPop(K:PySem.W.Frag):TE:=(tBM K "list" aAx (tVar 1) (bJ (lQ eL [] E0 (bJ (tVar 2) (bJ (tCB (fun xs H Q=>∃p ys,xs=[V.ref p]∧(SqL K H p ys∨SqT K H p ys)∧Q (.int ys.length) H) (bJ (tVar 1) tNil)) tNil))) tNil))
def outL(n:Nat)(ts:Ts):List Nat:=(List.range n).map fun (h:Nat)=>deg ts (ci h)
theorem aCe{n:Nat}{ts:Ts}:(outL n ts).length=n:=by unfold outL;rw[List.length_map,List.length_range]
theorem aCf{n:Nat}{ts:Ts}{h:Nat}(hh:h<n):(outL n ts).getD h 0=deg ts (ci h):=by
 unfold outL
 rw[List.getD_eq_getElem?_getD,List.getElem?_map,List.getElem?_range hh];rfl
theorem aCg{xs:List Nat}:(cyc2 xs).map (·.1)=xs.map ci:=by
 unfold cyc2
 rw[List.map_map]
 refine List.ext_getElem? fun k=>?_
 rw[List.getElem?_map,List.getElem?_map]
 by_cases h:k<xs.length
 ·rw[List.getElem?_range h,List.getElem?_eq_getElem h]
  exact congrArg (fun x=>some (ci x)) (cC h)
 ·rw[List.getElem?_eq_none (by rw[List.length_range];lia),List.getElem?_eq_none (by lia)];rfl
theorem uT{xs:List Nat}{h:Nat}(nd:xs.Nodup):deg (cyc2 xs) (ci h)=if h∈xs then 1 else 0:=by
 unfold deg
 rw[eY,aCg]
 have nd':=nC nd
 have e:ci h∈xs.map ci↔h∈xs:=by
  rw[List.mem_map]
  exact⟨fun ⟨a,ha,e⟩=>Int.ofNat.inj e ▸ ha,fun hh=>⟨h,hh,rfl⟩⟩
 by_cases hh:h∈xs
 ·rw[if_pos hh]
  exact Nat.le_antisymm (List.nodup_iff_count.mp nd' _) (List.count_pos_iff.mpr (e.mpr hh))
 ·rw[if_neg hh]
  exact List.count_eq_zero.mpr fun z=>hh (e.mp z)
theorem aBw{n:Nat}:List.replicate n (V.int 1)=NV (outL n (cyc2 (List.range n))):=by
 refine List.ext_getElem? fun i=>?_
 unfold NV outL
 rw[List.map_map,List.getElem?_replicate,List.getElem?_map]
 by_cases hi:i<n
 ·rw[if_pos hi,List.getElem?_range hi]
  show some (V.int 1)=some (V.int ((deg (cyc2 (List.range n)) (ci i):Nat):Int))
  rw[uT List.nodup_range,if_pos (List.mem_range.mpr hi)];rfl
 ·rw[if_neg hi,List.getElem?_eq_none (by rw[List.length_range];lia)];rfl
theorem aE4{zs:Zs}{ns:List Nat}(h:0<zs.length):zr zs≠NV ns:=fun e=>by
 cases zs with
 |nil=>exact absurd h (Nat.lt_irrefl _)
 |cons z zs=>
  cases ns with
  |nil=>cases e
  |cons n ns=>exact absurd (List.cons.inj e).1 (by intro z;cases z)
theorem _root_.NetM.Fine.pos{n:Nat}{ts:Ts}(F:Fine n ts):0<ts.length:=by
 obtain⟨k,w⟩:=F.con 0 1 (by have:=F.n1;lia) (by have:=F.n1;lia)
 cases k with
 |zero=>cases w
 |succ k=>obtain⟨c,_,t⟩:=w;exact List.length_pos_of_mem t
theorem aBx{cs:List Nat}:(cs.map ci).zip ((cs.drop 1++cs.take 1).map ci)=cyc2 cs:=by
 refine List.ext_getElem? fun k=>?_
 unfold cyc2
 rw[List.getElem?_map]
 by_cases h:k<cs.length
 ·rw[List.getElem?_range h]
  refine List.getElem?_zip_eq_some.mpr ⟨?_,?_⟩
  ·show _=some (ci (cs.getD k 0))
   rw[List.getElem?_map,List.getElem?_eq_getElem h,cC h];rfl
  ·show _=some (ci (cs.getD ((k+1) % cs.length) 0))
   rw[List.getElem?_map]
   by_cases h2:k+1<cs.length
   ·rw[List.getElem?_append_left (by rw[List.length_drop];lia),List.getElem?_drop,Nat.add_comm 1 k,List.getElem?_eq_getElem h2,Nat.mod_eq_of_lt h2,cC h2];rfl
   ·rw[List.getElem?_append_right (by rw[List.length_drop];lia),List.length_drop,show k-(cs.length-1)=0 by lia,show k+1=cs.length by lia,Nat.mod_self,List.getElem?_take_of_lt (by lia),List.getElem?_eq_getElem (by lia),cC (by lia)];rfl
 ·rw[List.getElem?_eq_none (by rw[List.length_zip,List.length_map,List.length_map,List.length_append,List.length_drop,List.length_take];lia),List.getElem?_eq_none (by rw[List.length_range];lia)];rfl
theorem uU{K:PySem.W.Frag}{p L D':Addr}{m r:Nat}{H:Hp}{fin:Hp→Prop}(hp:aY H p)(hL:H L=some (.lst (NV (List.range m))))(npL:L≠p)(hD:H D'=none)(hr:r≤m)(hm:m≤32)(q:∀ (xs ls:List Nat) (H2:Hp),(∀b o,H b=some o→b≠p→b≠L→H2 b=some o)→aY H2 p→H2 D'=some (.lst (NV xs))→(xs++ls).Perm (List.range m)→xs.length=r→fin H2):
  dP (Itr 0 r) (bB 0) tYes (tPop K) D' fin [none,some (.ref L),some (.ref p)] (upd H D' (.lst [])):=by
 have npD:D'≠p:=hp.ne hD
 have nLD:L≠D':=aG hL hD
 refine dZ (n:=r) (lo:=0) (fun i ys σ H2=>(∃k,σ=[k,some (.ref L),some (.ref p)])∧(∀b o,H b=some o→b≠p→b≠L→H2 b=some o)∧aY H2 p∧∃ls xs:List Nat,H2 L=some (.lst (NV ls))∧H2 D'=some (.lst ys)∧ys=NV xs∧(xs++ls).Perm (List.range m)∧xs.length=i)
  ⟨⟨_,rfl⟩,fun b o e _ _=>aE hD b o e,hp.same (aE hD),List.range m,[],by rw[aH nLD];exact hL,aB,rfl,List.Perm.refl _,rfl⟩ ?_ ?_
 ·rintro i ys σ H2 Kt Kf hi ⟨⟨k',rfl⟩,sm,hp2,ls,xs,hL2,hD2,rfl,pm,xl⟩ kt kf
  have ll:ls.length=m-i:=by have:=pm.length_eq;rw[List.length_append,List.length_range] at this;lia
  refine⟨_,rfl,.inl ⟨rfl,_,SqL.of hL2⟩,_,rfl,_,rfl,L,_,rfl,.inl (SqL.of hL2),p,_,rfl,by rw[bD];lia,by rw[bD];lia,hp2,fun d H3 hd s3 hp3=>?_⟩
  rw[bD] at hd
  have hv:ls[d]?=some ls[d]:=List.getElem?_eq_getElem hd
  refine⟨L,_,(d:Int),d,.int (ls[d]:Nat),rfl,rfl,s3 _ _ hL2 npL,by lia,by lia,(pB (cV (by rw[bD];exact hd))).1,by unfold NV;rw[List.getElem?_map,hv];rfl,?_⟩
  refine kt _ _ _ (by rw[aH nLD.symm];exact s3 _ _ hD2 npD) (by rw[bD,xl];exact Nat.lt_of_lt_of_le (show i<33 by lia) (by decide)) ⟨⟨_,rfl⟩,fun b o e n n2=>?_,?_,ls.eraseIdx d,xs++[ls[d]],by rw[aH nLD,aB,uL],aB,by rw[eO],aB7 pm hv,by rw[List.length_append,xl];rfl⟩
  ·rw[aH (aG e hD),aH n2]
   exact s3 _ _ (sm _ _ e n n2) n
  ·exact(hp3.put npL.symm).put npD.symm
 ·rintro ys σ H2 ⟨_,sm,hp2,ls,xs,hL2,hD2,rfl,pm,xl⟩
  exact q xs ls H2 sm hp2 hD2 pm xl
section
variable {P:Program} {w:World} {K:PySem.W.Frag} {mg:Str→Option Value} {base:Heap}
theorem rN:aW ["_law_pot_here","_law_many","_law_ties","_law_names","_law_left"] ["_law_pot_here","_law_many","_law_ties"] (aL sRen):=⟨rfl,rfl,rfl,by decide +kernel,rfl,by decide +kernel,by decide +kernel⟩
def rO:Sp:=fun vs H Q _=>∃ (p l:Addr) (n:Nat) (zs:Zs),vs=[.ref p,.int n,.ref l]∧aY H p∧H l=some (.lst (zr zs))∧PO H zs∧l≠p∧Fine n (zp zs)∧∀ (r:Addr) (zs':Zs) (H':Hp),aO p H H'→aY H' p→H r=none→H' r=some (.lst (zr zs'))→PO H' zs'→Fine n (zp zs')→Q (.ref r) H'
theorem aEo{f:Addr}{fd:FuncData}(F:Fun K "_law_renamed" "_law_renamed" sRen f fd)(B:Bl mg)(D:Cal P w K mg base CX0 1 "_law_take" ["_law_pot_here","_law_many"] eL):FnOk P w K mg base CX0 2 f fd ["_law_pot_here","_law_many","_law_ties"] rO:=by
 refine F.ok rN (fun vs H Q E h=>?_) (fun cdv A outer s H vs Q E hr h=>?_)
 ·obtain⟨p,l,n,zs,rfl,_⟩:=h
  rfl
 ·obtain⟨p,l,n,zs,rfl,hp,hl,po,nlp,Fi,q⟩:=h
  have n2:=Fi.n2
  have zl:zs.length≤256:=by have:=Fi.len;rwa [bH] at this
  refine'⟨_,(aF (aT (i:=3) rN.nd rfl (Or.inr rfl) (cJ (jX rfl) (by rfl) B.lst PyProof.Rows.boot_list (aA (cJ jB (by rfl) B.range PyProof.Rows.boot_range (aA (pv 1) aD)) aD)))
   (aF (bZ (aX dX (aN D hr aQ (aA (pv 0) (aA aJ aD))) aJ (aZ _)) (aF (aT (i:=4) rN.nd rfl (Or.inr rfl) (cJ (jX rfl) (by rfl) B.lst PyProof.Rows.boot_list (aA (cJ jB (by rfl) B.range PyProof.Rows.boot_range (aA (pv 1) aD)) aD)))
    (aI (aT (i:=3) rN.nd rfl (Or.inr rfl) ?c1))) bS)
   (aI (bA ?c2)))),?_⟩
  case c1=>
   refine' cG (g:=(bB 0)) (te:=(tPop K)) (NB:=["_law_k","_law_left","_law_pot_here"]) (src:=[none,some 4,some 0]) (bP (by kernel_rfl)) rfl (bT rfl B.range (aA (pv 1) aD)) ?g ?t ?e
   case g=>exact fun cl C s₃ H₃ fp=>(aK (i:=0) lJ rfl (Or.inl rfl) (Or.inr rfl))
   case t=>exact fun cl C s₃ H₃ fp=>cQ
   case e=>exact fun cl C s₃ H₃ fp=>(dA PySem.F.plainAttrs_list PySem.F.slot_list_pop PySem.F.type_list_pop sO (pv 1) (aA (aN D hr aQ (aA (pv 2) (aA (aU bC (by rfl) B.len PySem.boot_len (aA (pv 1) aD)) aD))) aD))
  case c2=>
   refine' cG (g:=(gTup K 2 (cY (bB 0) (cY (bB 1) gNil)))) (te:=(tTup (bJ (tOp (rIxL K) (tVar 2) (tVar 0)) (bJ (tOp (rIxL K) (tVar 2) (tVar 1)) tNil)))) (NB:=["_law_one","_law_other","_law_names"]) (src:=[none,none,some 3]) (bP (by kernel_rfl)) rfl (bN (pv 2)) ?g ?t ?e
   case g=>exact fun cl C s₃ H₃ fp=>(cM (n:=2) rfl (aR (aK (i:=0) gY rfl (Or.inl rfl) (Or.inr rfl)) (aR (aK (i:=1) gY rfl (Or.inl rfl) (Or.inr rfl)) cF)))
   case t=>exact fun cl C s₃ H₃ fp=>cQ
   case e=>exact fun cl C s₃ H₃ fp=>(bW (aA (aS aP (pv 2) (pv 0) (fun _ _=>rfl)) (aA (aS aP (pv 2) (pv 1) (fun _ _=>rfl)) aD)))
  refine⟨_,rfl,n,rfl,fun R hR=>⟨R,n,rfl,aB,by lia,fun N hN=>?_⟩⟩
  have s0:Same H (upd (upd H R (.rng 0 n)) N (.lst (NV (List.range n)))):=(aE hR).trans (aE hN)
  have gN:=aB (H:=upd H R (.rng 0 n)) (a:=N) (o:=.lst (NV (List.range n)))
  have hNH:H N=none:=(aE hR).free hN
  generalize upd (upd H R _) N _=H0 at *
  dsimp only
  refine kB (fun σ Hc=>∃N xs v,σ=[some (.ref p),some (.int n),some (.ref l),some (.ref N),v]∧aO p H Hc∧aY Hc p∧Hc N=some (.lst (NV xs))∧xs.Perm (List.range n)) ?_ ?_
  ·rintro σ Hc ⟨N,xs,v,rfl,sc,hpc,hNc,pm⟩
   have xl:xs.length=n:=by have:=pm.length_eq;rwa [List.length_range] at this
   have hlc:=sc _ _ hl nlp
   have poc:=po.sameE sc hp
   refine⟨_,rfl,l,rfl,⟨_,SqL.of hlc⟩,fun D1 hD1=>?_⟩
   refine nF (ren xs) (fun σ=>∃a b,σ=[a,b,some (.ref N)]) hlc poc hD1 (by lia) ⟨_,_,rfl⟩ ?_ ?_
   ·rintro z σ H3 Rr Kf hz ⟨a,b,rfl⟩ s3 ha kt
    obtain⟨⟨a0,a1⟩,⟨b0,b1⟩⟩:=Fi.rg z.2 (List.mem_map.mpr ⟨z,hz,rfl⟩)
    have gt:∀x:Int,0≤x→x<n→atI (NV xs) x=some (.int (ci (xs.getD x.toNat 0))):=fun x h0 h1=>by
     have:=aM (xs:=NV xs) (eU (xs:=xs) (j:=x.toNat) (by lia))
     rwa [Int.toNat_of_nonneg h0] at this
    refine⟨z.1,_,rfl,SqT.of ha,rfl,_,_,rfl,_,_,rfl,rfl,?_⟩
    exact⟨_,rfl,_,rfl,N,_,_,_,rfl,rfl,SqL.of (s3 _ _ hNc),gt _ a0 a1,_,rfl,_,rfl,N,_,_,_,rfl,rfl,SqL.of (s3 _ _ hNc),gt _ b0 b1,by show 2≤sizeLine;decide,fun t ht=>kt _ _ ⟨_,_,rfl⟩ ht⟩
   ·intro zs' H3 s3 h3 po3 e3 _
    exact q D1 zs' H3 (sc.trans (aO.of s3)) (hpc.same s3) (sc.free hpc.full hD1) h3 po3 (by rw[e3];exact Fi.ren pm)
  ·intro Nx hNx
   refine⟨_,rfl,p,2,rfl,by decide,by decide,hp.same s0,fun d H1 hd s1 hp1=>⟨rfl,_,rfl,?_⟩⟩
   have sH1:aO p H H1:=(aO.of s0).trans s1
   refine ite2 (fun c=>?_) (fun c=>hNx _ _ ⟨N,_,_,rfl,sH1,hp1,s1 _ _ gN (hp.ne hNH),List.Perm.refl _⟩)
   refine⟨_,rfl,n,rfl,fun R2 hR2=>⟨R2,n,rfl,aB,by lia,fun L hL=>?_⟩⟩
   have sL:Same H1 (upd (upd H1 R2 (.rng 0 n)) L (.lst (NV (List.range n)))):=(aE hR2).trans (aE hL)
   have gL:=aB (H:=upd H1 R2 (.rng 0 n)) (a:=L) (o:=.lst (NV (List.range n)))
   have hL1:H1 L=none:=(aE hR2).free hL
   generalize upd (upd H1 R2 _) L _=H2 at *
   refine⟨_,rfl,(n:Int),rfl,by lia,by lia,fun D1 hD1=>?_⟩
   rw[Int.toNat_natCast]
   refine uU (hp1.same sL) gL (hp1.ne hL1) hD1 (Nat.le_refl _) n2 fun xs ls H3 s3 hp3 h3 pm xl=>?_
   obtain rfl:ls=[]:=List.length_eq_zero_iff.mp (by have:=pm.length_eq;rw[List.length_append,List.length_range] at this;lia)
   rw[List.append_nil] at pm
   refine hNx _ _ ⟨D1,xs,_,rfl,fun b o e m=>s3 _ _ (sL _ _ (sH1 _ _ e m)) m ?_,hp3,h3,pm⟩
   rintro rfl
   rw[sH1 _ _ e m] at hL1;cases hL1
theorem fU:aW ["_law_pot_here","_law_many","_law_found","_law_counts","_law_k","_law_left","_law_size","_law_some","_law_ties","_law_new","_law_house"] ["_law_pot_here","_law_many"] (aL sOne):=⟨rfl,rfl,rfl,by decide +kernel,rfl,by decide +kernel,by decide +kernel⟩
def zT:Sp:=fun vs H Q _=>∃ (p:Addr) (n:Nat),vs=[.ref p,.int n]∧2≤n∧n≤32∧aY H p∧∀ (r:Addr) (zs:Zs) (H':Hp),aO p H H'→aY H' p→H r=none→H' r=some (.lst (zr zs))→PO H' zs→Fine n (zp zs)→Q (.ref r) H'
theorem aEp{f:Addr}{fd:FuncData}(F:Fun K "_law_one_way" "_law_one_way" sOne f fd)(B:Bl mg)(B2:Bl2 mg)(D:Cal P w K mg base CX0 1 "_law_take" ["_law_pot_here","_law_many"] eL)(RG:Cal P w K mg base CX0 1 "_law_ring" ["_law_many"] oO):FnOk P w K mg base CX0 2 f fd ["_law_pot_here","_law_many"] zT:=by
 refine F.ok fU (fun vs H Q E h=>?_) (fun cdv A outer s H vs Q E hr h=>?_)
 ·obtain⟨p,n,rfl,_⟩:=h
  rfl
 ·obtain⟨p,n,rfl,n1,n2,hp,q⟩:=h
  refine'⟨_,(aF (cK (bW (aA (aN RG hr aQ (aA (pv 1) aD)) (aA (aV nQ (bY (aA aJ aD)) (pv 1)) aD))) (cM (n:=2) rfl (aR (aK (i:=2) fU.nd rfl (Or.inr rfl)) (aR (aK (i:=3) fU.nd rfl (Or.inr rfl)) cF))))
   (aF (cH PassesOwn.never rfl (bT rfl B.range (aA (aN D hr aQ (aA (pv 0) (aA (aV cD (pv 1) aJ) aD))) aD)) (aK (i:=4) fU.nd rfl (Or.inl rfl))
    (aF (aT (i:=5) fU.nd rfl (Or.inr rfl) (cJ (jX rfl) (by rfl) B.lst PyProof.Rows.boot_list (aA (cJ jB (by rfl) B.range PyProof.Rows.boot_range (aA (pv 1) aD)) aD)))
    (aF (aT (i:=6) fU.nd rfl (Or.inl rfl) (aV cD aJ (aN D hr aQ (aA (pv 0) (aA (aU (kN rfl) (by rfl) B.min PyProof.Rows.boot_min (aA aJ (aA (aV gU (pv 1) aJ) aD))) aD)))))
    (aF (dB (i:=7) (g:=(bB 0)) (te:=(tPop K)) (NB:=["_law_turn","_law_left","_law_pot_here"]) (src:=[none,some 5,some 0]) (bP (by kernel_rfl)) rfl (bT rfl B.range (aA (pv 6) aD)) ?g1 ?t1 ?e1 fU.nd rfl rfl rfl)
    (aF (aT (i:=8) fU.nd rfl (Or.inl rfl) (aE3 rfl rfl B2.zip rfl B.lst (aA (pv 7) (aA (aV kP (mU pC (pv 7) (pA aJ) oZ) (mU pC (pv 7) oZ (pA aJ))) aD))))
    (aF (dB (i:=9) (g:=(bB 0)) (tt:=(hW (tOp (rInP K true) (tVar 0) (tVar 1)))) (te:=(tVar 0)) (NB:=["_law_tie","_law_found"]) (src:=[none,some 2]) (bP (by kernel_rfl)) rfl (bN (pv 8)) ?g2 ?t2 ?e2 fU.nd rfl rfl rfl)
    (aI (bZ (PW.pt (nL (aX dX (aU bC (by rfl) B.len PySem.boot_len (aA (pv 9) aD)) (aU bC (by rfl) B.len PySem.boot_len (aA (pv 8) aD)) (aZ _)) (lO (aX gJ (aU (aA4 rfl) (by rfl) B.max PyProof.Rows.boot_max (aA ?c3 aD)) aJ (aZ _))))) (aF (aT (i:=2) fU.nd rfl (Or.inr rfl) (aV kP (pv 2) (pv 8)))
     (aI (cH PassesOwn.never rfl (bN (pv 7)) (aK (i:=10) fU.nd rfl (Or.inl rfl))
      (aI (cK (aV cD (aS aP (pv 3) (pv 10) (fun _ _=>rfl)) aJ) (dH (pv 3) (pv 10) cN)))))) bS))))))))
   (aI (bA (pv 2))))),?_⟩
  case g1=>exact fun cl C s₃ H₃ fp=>(aK (i:=0) jQ rfl (Or.inl rfl) (Or.inr rfl))
  case t1=>exact fun cl C s₃ H₃ fp=>cQ
  case e1=>exact fun cl C s₃ H₃ fp=>(dA PySem.F.plainAttrs_list PySem.F.slot_list_pop PySem.F.type_list_pop sO (pv 1) (aA (aN D hr aQ (aA (pv 2) (aA (aU bC (by rfl) B.len PySem.boot_len (aA (pv 1) aD)) aD))) aD))
  case g2=>exact fun cl C s₃ H₃ fp=>(aK (i:=0) uS rfl (Or.inl rfl) (Or.inr rfl))
  case t2=>exact fun cl C s₃ H₃ fp=>dF (aX (iW hr.u) (pv 0) (pv 1) rfl)
  case e2=>exact fun cl C s₃ H₃ fp=>(pv 0)
  case c3=>
   refine' cG (g:=(bB 0)) (te:=(tOp (rIxL K) (tVar 1) (tVar 0))) (NB:=["_law_house","_law_counts"]) (src:=[none,some 3]) (bP (by kernel_rfl)) rfl (bN (pv 7)) ?g ?t ?e
   case g=>exact fun cl C s₃ H₃ fp=>(aK (i:=0) oP rfl (Or.inl rfl) (Or.inr rfl))
   case t=>exact fun cl C s₃ H₃ fp=>cQ
   case e=>exact fun cl C s₃ H₃ fp=>(aS aP (pv 1) (pv 0) (fun _ _=>rfl))
  refine⟨_,rfl,n,rfl,n1,n2,fun T0 zs0 H1 s1 hT0 hT1 po1 ez1=>⟨by show 1≤sizeLine;decide,fun L1 hL1=>⟨_,rfl,L1,_,_,rfl,rfl,aB,by lia,by lia,by rw[Int.toNat_natCast,List.length_singleton];exact Nat.le_trans (show 1*n≤32 by lia) (by decide),fun M hM=>?_⟩⟩⟩
  rw[Int.toNat_natCast,iR,aBw]
  refine⟨by show 2≤sizeLine;decide,fun T1 hT1'=>⟨T1,_,rfl,SqT.of aB,rfl,_,_,rfl,_,_,rfl,rfl,?_⟩⟩
  have F0:Fine n (zp zs0):=by rw[ez1];exact(qT n1 n2 (List.Perm.refl _)).perm iY
  rw[← ez1] at *
  have s3:=aE (o:=.tup [.ref T0,.ref M]) hT1'
  have sL:=aE (o:=.lst [.int 1]) hL1
  have s2:=(sL.trans (aE (o:=.lst (NV (outL n (zp zs0)))) hM)).trans s3
  have gT:=s2 _ _ hT1
  have gM:=s3 _ _ (aB (H:=upd H1 L1 (.lst [.int 1])) (a:=M) (o:=.lst (NV (outL n (zp zs0)))))
  have po2:=po1.same s2
  have hMH:H M=none:=s1.free (sL.free hM)
  have nMp:M≠p:=hp.ne hMH
  have sH:=s1.trans s2
  generalize upd (upd (upd H1 L1 _) M _) T1 _=H2 at *
  clear s3 sL s2 hT1 po1
  refine⟨_,rfl,_,rfl,_,_,rfl,rfl,p,n+1,rfl,by lia,by lia,hp.same sH,fun d H3 hd s3 hp3=>⟨(d:Int),rfl,by lia,by lia,?_⟩⟩
  rw[Int.toNat_natCast]
  refine cR (lo:=0) (n:=d) (fun i σ Hc=>∃ (T:Addr) (zs:Zs),(∃a b c e f g h,σ=[some (.ref p),some (.int n),some (.ref T),some (.ref M),a,b,c,e,f,g,h])∧aO p H Hc∧aY Hc p∧H T=none∧Hc T=some (.lst (zr zs))∧PO Hc zs∧Hc M=some (.lst (NV (outL n (zp zs))))∧Fine n (zp zs)) ⟨T0,zs0,⟨_,_,_,_,_,_,_,rfl⟩,(aO.of sH).trans s3,hp3,hT0,s3 _ _ gT (hp.ne hT0),po2.sameE s3 (hp.same sH),s3 _ _ gM nMp,F0⟩ ?_ ?_
  ·clear gT gM po2 F0 s3 hp3 sH
   rintro i σ Hc hi ⟨T,zs,⟨x4,x5,x6,x7,x8,x9,x10,rfl⟩,sc,hpc,hT,hTc,po,hMc,Fi⟩
   have nTp:T≠p:=hp.ne hT
   have hzl:zs.length≤256:=by have:=Fi.len;rwa [bH] at this
   have nTM:T≠M:=by rintro rfl;rw[hTc] at hMc;have:=HO.lst.inj (Option.some.inj hMc);exact aE4 (by rw[bH.symm];exact Fi.pos) this
   refine⟨_,rfl,n,rfl,fun R hR=>⟨R,n,rfl,aB,by lia,fun L hL=>?_⟩⟩
   have sL:Same Hc (upd (upd Hc R (.rng 0 n)) L (.lst (NV (List.range n)))):=(aE hR).trans (aE hL)
   have gL:=aB (H:=upd Hc R (.rng 0 n)) (a:=L) (o:=.lst (NV (List.range n)))
   have hLc:Hc L=none:=(aE hR).free hL
   have nLp:=hpc.ne hLc
   generalize upd (upd Hc R _) L _=H4 at *
   have em:(if (n:Int)-1<4 then (n:Int)-1 else 4)=((min 4 (n-1):Nat):Int):=by split <;> lia
   refine⟨_,rfl,_,rfl,_,_,rfl,rfl,4,_,rfl,p,min 4 (n-1),by rw[em];rfl,by lia,by lia,hpc.same sL,fun d2 H5 hd2 s5 hp5=>⟨_,_,rfl,rfl,?_⟩⟩
   have e3:(2:Int)+(d2:Int)=((2+d2:Nat):Int):=by lia
   refine⟨_,rfl,((2+d2:Nat):Int),congrArg (fun v=>[V.int v]) e3,by lia,by lia,fun S hS=>?_⟩
   rw[Int.toNat_natCast]
   refine uU hp5 (s5 _ _ gL nLp) nLp hS (by lia) n2 fun cs ls H6 s6 hp6 hS6 pm cl=>?_
   have st6:∀b o,Hc b=some o→b≠p→H6 b=some o:=fun b o e m=>s6 _ _ (s5 _ _ (sL _ _ e) m) m (aG e hLc)
   have cnd:cs.Nodup:=(List.nodup_append.mp (pm.nodup_iff.mpr List.nodup_range)).1
   have clt:∀x∈cs,x<n:=fun x hx=>List.mem_range.mp (pm.mem_iff.mp (List.mem_append_left _ hx))
   have hT6:=st6 _ _ hTc nTp
   have hM6:=st6 _ _ hMc nMp
   have po6:PO H6 zs:=fun z hz=>st6 _ _ (po z hz) (hpc.neT (po z hz))
   have sH6:aO p H H6:=fun b o e m=>st6 _ _ (sc _ _ e m) m
   have nSM:S≠M:=(aG (s5 _ _ (sL _ _ hMc) nMp) hS).symm
   clear s6 s5 hp5 gL sL st6 hS pm
   refine⟨_,rfl,_,rfl,_,rfl,S,_,rfl,SqL.of hS6,fun S1 hS1=>?_⟩
   have sS1:=aE (o:=.lst (cutV (NV cs) (some 1) none)) hS1
   refine⟨_,rfl,_,rfl,S,_,rfl,SqL.of (sS1 _ _ hS6),fun S2 hS2=>?_⟩
   have sS2:=aE (o:=.lst (cutV (NV cs) none (some 1))) hS2
   refine⟨S1,S2,_,_,rfl,rfl,sS2 _ _ aB,aB,?_,fun S3 hS3=>?_⟩
   ·rw[show (1:Int)=((1:Nat):Int) from rfl,uQ,aBr,List.length_drop,List.length_take,bD];exact Nat.le_trans (show _≤12 by lia) (by decide)
   have sS3:=aE (o:=.lst (cutV (NV cs) (some 1) none++cutV (NV cs) none (some 1))) hS3
   have sS:=(sS1.trans sS2).trans sS3
   have gS3:=aB (H:=upd (upd H6 S1 (.lst (cutV (NV cs) (some 1) none))) S2 (.lst (cutV (NV cs) none (some 1)))) (a:=S3) (o:=.lst (cutV (NV cs) (some 1) none++cutV (NV cs) none (some 1)))
   have e4:cutV (NV cs) (some 1) none++cutV (NV cs) none (some 1)=((cs.drop 1++cs.take 1).map ci).map V.int:=by
    rw[show (1:Int)=((1:Nat):Int) from rfl,uQ,aBr]
    unfold NV
    rw[← List.map_drop,← List.map_take,List.map_map,← List.map_append];rfl
   have e5:NV cs=(cs.map ci).map V.int:=by unfold NV;rw[List.map_map];rfl
   refine⟨S,S3,cs.map ci,(cs.drop 1++cs.take 1).map ci,rfl,by rw[← e5];exact SqL.of (sS _ _ hS6),by rw[← e4];exact SqL.of gS3,by simp;lia,by rw[List.length_map];lia,fun Tn ms H7 s7 hTn hT7 poM ezM=>?_⟩
   rw[aBx] at ezM
   have s67:=sS.trans s7
   have hS7:=s67 _ _ hS6
   have hT7':=s67 _ _ hT6
   have hM7:=s67 _ _ hM6
   have po7:=po6.same s67
   have hp7:=hp6.same s67
   have sH7:aO p H H7:=sH6.trans (aO.of s67)
   have hTnH:H Tn=none:=sH6.free hp6.full (sS.free hTn)
   clear s67 s7 sS sS1 sS2 sS3 gS3 po6 hM6 hT6 hS6 sH6 hp6 e4 hS1 hS2 hS3
   have ml:ms.length=cs.length:=by rw[← bH,ezM];unfold cyc2;rw[List.length_map,List.length_range]
   refine⟨_,rfl,Tn,rfl,⟨_,SqL.of hT7⟩,fun Nw hNw=>?_⟩
   refine aDr (fun u=>!decide (u∈zp zs)) (fun σ=>∃x,σ=[x,some (.ref T)]) hT7 hNw (by lia) ⟨_,rfl⟩ ?_ ?_
   ·rintro z σ H8 Kt Kf hz ⟨x,rfl⟩ sm8 kt kf
    obtain⟨l1,l2⟩:=rL (K:=K) (po7.same sm8)
    refine⟨_,rfl,_,rfl,z.1,T,z.2,zs.map (fun z:Addr×Int×Int=>z.1),zp zs,rfl,rfl,SqT.of (sm8 _ _ (poM z hz)),by rw[← gC];exact SqL.of (sm8 _ _ hT7'),by rw[List.length_map];exact l1,l2,_,rfl,?_⟩
    exact ite2 (fun c=>⟨_,rfl,kt _ _ ⟨_,rfl⟩ (Same.refl _) c⟩) (fun c=>kf _ _ ⟨_,rfl⟩ (Same.refl _) (by simpa using c))
   intro H8 s8 hN8
   have hS8:=s8 _ _ hS7
   have hTn8:=s8 _ _ hT7
   have hT8:=s8 _ _ hT7'
   have hM8:=s8 _ _ hM7
   have po8:=po7.same s8
   have poM8:=poM.same s8
   have hp8:=hp7.same s8
   have sH8:aO p H H8:=sH7.trans (aO.of s8)
   clear hS7 hT7 hT7' hM7 po7 poM hp7 sH7 s8
   refine⟨_,rfl,Nw,_,rfl,.inl (SqL.of hN8),_,rfl,Tn,_,rfl,.inl (SqL.of hTn8),rfl,_,rfl,?_⟩
   have stay:∀Hd:Hp,Same H8 Hd→∃ (T':Addr) (zs':Zs),(∃a b c e f g h,[some (V.ref p),some (.int n),some (.ref T),some (.ref M),some (.int (0+(i:Int))),some (.ref L),some (.int (2+(d2:Int))),some (.ref S),some (.ref Tn),some (.ref Nw),x10]=[some (.ref p),some (.int n),some (.ref T'),some (.ref M),a,b,c,e,f,g,h])∧aO p H Hd∧aY Hd p∧H T'=none∧Hd T'=some (.lst (zr zs'))∧PO Hd zs'∧Hd M=some (.lst (NV (outL n (zp zs'))))∧Fine n (zp zs'):=fun Hd sd=>⟨T,zs,⟨_,_,_,_,_,_,_,rfl⟩,sH8.trans (aO.of sd),hp8.same sd,hT,sd _ _ hT8,po8.same sd,sd _ _ hM8,Fi⟩
   refine ite2 (fun c1=>?_) (fun c1=>iteF (stay _ (Same.refl _)))
   have c2:(zr (ms.filter fun z=>!decide (z.2∈zp zs))).length=(zr ms).length:=Int.ofNat.inj (by simpa using c1)
   rw[rB (c:=fun u=>!decide (u∈zp zs)),cL,← bH] at c2
   have nin:∀t∈zp ms,t∉zp zs:=fun t ht=>by simpa using List.length_filter_eq_length_iff.mp c2 t ht
   refine⟨_,rfl,S,rfl,⟨_,SqL.of hS8⟩,fun Ct hC=>?_⟩
   refine aDs cs (fun (x:Nat)=>V.int (x:Int)) (fun (x:Nat)=>V.int ((deg (zp zs) (ci x):Nat):Int)) (fun σ=>∃x,σ=[x,some (.ref M)]) hS8 hC (by lia) ⟨_,rfl⟩ ?_ ?_
   ·rintro x σ H10 R' Kf hx ⟨x',rfl⟩ sm10 kt
    refine⟨_,rfl,_,rfl,M,_,_,_,rfl,rfl,SqL.of (sm10 _ _ hM8),aM (eU (by rw[aCe];exact clt x hx)),?_⟩
    rw[aCf (clt x hx)]
    exact kt _ _ ⟨_,rfl⟩ (Same.refl _)
   intro H10 s10 hC10
   have hC10':H10 Ct=some (.lst ((cs.map fun (x:Nat)=>((deg (zp zs) (ci x):Nat):Int)).map V.int)):=by rw[hC10,List.map_map];rfl
   refine⟨Ct,_,rfl,SqL.of hC10',fun z=>?_,fun Mx hMx hall=>⟨_,_,rfl,rfl,_,rfl,?_⟩⟩
   ·have:=congrArg List.length z
    rw[List.length_map,cl] at this
    simp at this
   refine ite2 (fun c3=>?_) (fun c3=>stay _ s10)
   have hT10:=s10 _ _ hT8
   have hTn10:=s10 _ _ hTn8
   refine⟨_,rfl,_,rfl,T,Tn,_,_,rfl,rfl,hT10,hTn10,by rw[cL,cL];exact Nat.le_trans (show _≤300 by lia) (by decide),fun N hN=>?_⟩
   have sN:=aE (o:=.lst (zr zs++zr ms)) hN
   have hNH:H N=none:=(sH8.trans (aO.of s10)).free (hp8.same s10).full hN
   have F2:Fine n (zp (zs++ms)):=by
    rw[dM,ezM]
    refine Fi.round cnd clt (by lia) (fun x hx=>?_) (fun t ht=>nin t (by rw[ezM];exact ht))
    have h7:((deg (zp zs) (ci x):Nat):Int)≤Mx:=hall _ (List.mem_map.mpr ⟨x,hx,rfl⟩)
    have h8:Mx<8:=of_decide_eq_true c3
    lia
   have sA:=s10.trans sN
   have hMA:=sA _ _ hM8
   have hSA:=sA _ _ hS8
   have hNA:=aB (H:=H10) (a:=N) (o:=.lst (zr zs++zr ms))
   have poA:=(po8.append poM8).same sA
   have hpA:=hp8.same sA
   have sHA:aO p H _:=sH8.trans (aO.of sA)
   have nNM:N≠M:=(aG (s10 _ _ hM8) hN).symm
   generalize upd H10 N _=HA at *
   refine⟨_,rfl,S,rfl,⟨_,SqL.of hSA⟩,dN (K:=K) (xs:=NV cs) (fun j σ He=>(∃a b c e f g h,σ=[some (.ref p),some (.int n),some (.ref N),some (.ref M),a,b,c,e,f,g,h])∧(∀b o,HA b=some o→b≠M→He b=some o)∧He M=some (.lst (NV ((List.range n).map fun (h:Nat)=>deg (zp zs) (ci h)+if h∈cs.take j then 1 else 0)))) ⟨⟨_,_,_,_,_,_,_,rfl⟩,fun b o e _=>e,?_⟩ (fun j σ He _ z=>SqL.of (z.2.1 _ _ hSA nSM)) ?_ ?_⟩
   ·rw[hMA];simp[outL]
   ·rintro j x σ He hx ⟨⟨y4,y5,y6,y7,y8,y9,y10,rfl⟩,sk,hMe⟩
    obtain⟨c,hv,rfl⟩:=kD hx
    have hc:c<n:=clt c (List.mem_of_getElem? hv)
    have hj:j<cs.length:=(List.getElem?_eq_some_iff.mp hv).1
    have hcl:c<((List.range n).map fun (h:Nat)=>deg (zp zs) (ci h)+if h∈cs.take j then 1 else 0).length:=by rw[List.length_map,List.length_range];exact hc
    have cn:c∉cs.take j:=fun z=>by
     obtain⟨k,hk⟩:=List.mem_iff_getElem?.mp z
     have hkl:k<j:=by have:=(List.getElem?_eq_some_iff.mp hk).1;rw[List.length_take] at this;lia
     rw[List.getElem?_take_of_lt hkl] at hk
     obtain⟨k1,e1⟩:=List.getElem?_eq_some_iff.mp hk
     obtain⟨k2,e2⟩:=List.getElem?_eq_some_iff.mp hv
     have:=gW cnd k1 k2 (e1.trans e2.symm)
     lia
    refine⟨_,rfl,_,rfl,M,_,_,_,rfl,rfl,SqL.of hMe,aM (eU hcl),_,_,rfl,rfl,_,rfl,_,rfl,M,_,(c:Int),c,rfl,rfl,hMe,cV (by rw[bD];exact hcl),⟨_,_,_,_,_,_,_,rfl⟩,fun b o e m=>by rw[aH m];exact sk b o e m,?_⟩
    rw[aB]
    have eg:((List.range n).map fun (h:Nat)=>deg (zp zs) (ci h)+if h∈cs.take j then 1 else 0).getD c 0=deg (zp zs) (ci c):=by
     rw[List.getD_eq_getElem?_getD,List.getElem?_map,List.getElem?_range hc]
     show deg (zp zs) (ci c)+(if c∈cs.take j then 1 else 0)=_
     rw[if_neg cn];rfl
    rw[eg]
    refine congrArg (fun l=>some (HO.lst l)) ((jP (x:=deg (zp zs) (ci c)+1)).trans ?_)
    congr 1
    refine List.ext_getElem? fun k=>?_
    rw[List.getElem?_set,List.getElem?_map,List.getElem?_map]
    have tk:cs.take (j+1)=cs.take j++[c]:=by rw[List.take_add_one,hv];rfl
    by_cases hk:c=k
    ·subst hk
     rw[if_pos rfl,if_pos hcl,List.getElem?_range hc]
     show _=some (deg (zp zs) (ci c)+if c∈cs.take (j+1) then 1 else 0)
     rw[if_pos (by rw[tk];simp)]
    ·rw[if_neg hk]
     by_cases hkn:k<n
     ·rw[List.getElem?_range hkn]
      show some (deg (zp zs) (ci k)+if k∈cs.take j then 1 else 0)=some (deg (zp zs) (ci k)+if k∈cs.take (j+1) then 1 else 0)
      have:(k∈cs.take (j+1))↔k∈cs.take j:=by rw[tk,List.mem_append,List.mem_singleton];exact⟨fun z=>z.resolve_right (fun e=>hk e.symm),.inl⟩
      simp only[this]
     ·rw[List.getElem?_eq_none (by rw[List.length_range];lia)];rfl
   ·rintro σ He ⟨⟨y4,y5,y6,y7,y8,y9,y10,rfl⟩,sk,hMe⟩
    have st:∀b o,HA b=some o→b≠M→He b=some o:=sk
    refine⟨N,zs++ms,⟨_,_,_,_,_,_,_,rfl⟩,fun b o e m=>sk _ _ (sHA _ _ e m) (aG e hMH),?_,hNH,?_,fun z hz=>?_,?_,F2⟩
    ·obtain⟨x,y,e,r⟩:=hpA
     exact⟨x,y,sk _ _ e nMp.symm,r⟩
    ·rw[dL];exact sk _ _ hNA nNM
    ·have g:=poA z hz
     exact sk _ _ g (by rintro e;rw[e,hMA] at g;cases g)
    ·rw[hMe,bD,List.take_length]
     refine congrArg (fun l=>some (HO.lst (NV l))) ?_
     unfold outL
     refine List.map_congr_left fun h _=>?_
     rw[dM,ezM,xL,uT cnd]
  ·rintro σ Hc ⟨T,zs,⟨x4,x5,x6,x7,x8,x9,x10,rfl⟩,sc,hpc,hT,hTc,po,hMc,Fi⟩
   exact⟨_,rfl,q T zs Hc sc hpc hT hTc po Fi⟩
end
end K12
namespace K12
open PySem L2 NetM
abbrev zU:Stmt:=top 43
theorem zV{bs:List Addr}{h:Nat}(hh:h<bs.length):(bs.map V.ref)[h]?=some (.ref (bs.getD h 0)):=by
 rw[List.getElem?_map,List.getD_eq_getElem?_getD,List.getElem?_eq_getElem hh];rfl
theorem aEq{cs:List Addr}{j:Nat}(h:j<cs.length):cs.getD j 0∈cs:=by rw[List.getD_eq_getElem?_getD,List.getElem?_eq_getElem h];exact List.getElem_mem _
def aE5(σ:St):Nat:=match σ[5]? with
 |some (some (V.int i))=>i.toNat
 |_=>0
section
variable {P:Program} {w:World} {K:PySem.W.Frag} {mg:Str→Option Value} {base:Heap}
theorem gZ:aW ["_law_outs_here","_law_found","_law_begin","_law_far_here","_law_waiting","_law_at","_law_other"] ["_law_outs_here"] (aL zU):=⟨rfl,rfl,rfl,by decide +kernel,rfl,by decide +kernel,by decide +kernel⟩
def uV:Sp:=fun vs H Q _=>∃ (L:Addr→Prop) (o:Addr) (n:Nat) (ts:Ts),vs=[.ref o]∧Fine n ts∧bL H L o n (outN n ts)∧∀ (r:Addr) (H':Hp),Same H H'→H r=none→bL H' (fun b=>H b=none) r n (fun h=>(List.range n).map (far ts h))→Q (.ref r) H'
theorem aDw{f:Addr}{fd:FuncData}(F:Fun K "_law_far" "_law_far" zU f fd)(B:Bl mg):FnOk P w K mg base CX0 1 f fd ["_law_outs_here"] uV:=by
 refine F.ok gZ (fun vs H Q E h=>?_) (fun cdv A outer s H vs Q E hr h=>?_)
 ·obtain⟨L,o,n,ts,rfl,_⟩:=h
  rfl
 ·obtain⟨L,o,n,ts,rfl,fi,O,q⟩:=h
  have n1:=fi.n1
  have n2:=fi.n2
  refine⟨_,(aF (aT (i:=1) gZ.nd rfl (Or.inl rfl) (bY aD))
   (aF (cH PassesOwn.never rfl (bT rfl B.range (aA (aU bC (by rfl) B.len PySem.boot_len (aA (pv 0) aD)) aD)) (aK (i:=2) gZ.nd rfl (Or.inl rfl))
    (aF (aT (i:=3) gZ.nd rfl (Or.inl rfl) (aV nQ (bY (aA eI aD)) (aU bC (by rfl) B.len PySem.boot_len (aA (pv 0) aD))))
    (aF (cK aJ (dH (pv 3) (pv 2) cN))
    (aF (aT (i:=4) gZ.nd rfl (Or.inl rfl) (bY (aA (pv 2) aD)))
    (aF (aT (i:=5) gZ.nd rfl (Or.inl rfl) aJ)
    (aF (rT PassesOwn.never (aX gJ (pv 5) (aU bC (by rfl) B.len PySem.boot_len (aA (pv 4) aD)) (aZ _)) (aF (cH PassesOwn.never rfl (bN (aS aP (pv 0) (aS aP (pv 4) (pv 5) (fun _ _=>rfl)) (fun _ _=>rfl))) (aK (i:=6) gZ.nd rfl (Or.inl rfl))
      (aI (bZ (aX aAo (aS aP (pv 3) (pv 6) (fun _ _=>rfl)) eI (aZ _)) (aF (cK (aV cD (aS aP (pv 3) (aS aP (pv 4) (pv 5) (fun _ _=>rfl)) (fun _ _=>rfl)) aJ) (dH (pv 3) (pv 6) cN))
       (aI (bV (dA PySem.F.plainAttrs_list PySem.F.slot_list_append PySem.F.type_list_append cE (pv 4) (aA (pv 6) aD))))) bS)))
     (aI (aT (i:=5) gZ.nd rfl (Or.inl rfl) (aV cD (pv 5) aJ)))))
    (aI (bV (dA PySem.F.plainAttrs_list PySem.F.slot_list_append PySem.F.type_list_append cE (pv 1) (aA (pv 3) aD))))))))))
   (aI (bA (pv 1))))),?_⟩
  obtain⟨bs,hol,hbL,hbl,hbs⟩:=O
  refine⟨by show 0≤sizeLine;decide,fun F hF=>?_⟩
  have sF:=aE (o:=.lst []) hF
  have el:(((bs.map V.ref).length:Nat):Int)=(n:Int):=by rw[List.length_map,hbl]
  refine⟨_,rfl,o,_,rfl,.inl (SqL.of (sF _ _ hol)),(n:Int),congrArg (fun z=>[V.int z]) el,by lia,by lia,cR (n:=n) (lo:=0) (fun i σ Hc=>(∃a b c d e,σ=[some (.ref o),some (.ref F),a,b,c,d,e])∧Same H Hc∧∃ds:List Addr,Hc F=some (.lst (ds.map V.ref))∧(∀b∈ds,H b=none∧b≠F)∧ds.length=i∧∀j,j<i→Hc (ds.getD j 0)=some (.lst (NV ((List.range n).map (far ts j))))) ⟨⟨_,_,_,_,_,rfl⟩,sF,[],aB,fun b hb=>(nomatch hb),rfl,fun j hj=>absurd hj (Nat.not_lt_zero _)⟩ ?_ ?_⟩
  rotate_left
  ·rintro σ Hc ⟨⟨a,b,c,d,e,rfl⟩,sc,ds,hFc,hds,dl,hdj⟩
   exact⟨_,rfl,q F Hc sc hF ⟨ds,hFc,fun b hb=>(hds b hb).1,dl,hdj⟩⟩
  ·rintro b σ Hc hb ⟨⟨_,_,_,_,_,rfl⟩,sc,ds,hFc,hds,dl,hdj⟩
   rw[Int.zero_add]
   refine⟨by show 1≤sizeLine;decide,fun L1 hL1=>⟨_,rfl,o,_,rfl,.inl (SqL.of (aE hL1 _ _ (sc _ _ hol))),L1,_,_,rfl,rfl,aB,by rw[el];lia,by rw[el];lia,by rw[Int.toNat_natCast,List.length_singleton,List.length_map,hbl];exact Nat.le_trans (show 1*n≤32 by lia) (by decide),fun D hD=>?_⟩⟩
   rw[Int.toNat_natCast,iR,List.length_map,hbl]
   have s1:=sc.trans (aE (o:=.lst [.non]) hL1)
   have hFD:F≠D:=aG ((aE (o:=.lst [.non]) hL1) _ _ hFc) hD
   have fD:=s1.free hD
   have dsD:∀c∈ds,c≠D:=fun c hc=>by
    rintro rfl
    exact absurd hD (by
     obtain⟨j,hj,e⟩:=List.getElem_of_mem hc
     have:(upd Hc L1 (.lst [.non])) c=some (.lst (NV ((List.range n).map (far ts j)))):=(aE hL1) _ _ (by have:=hdj j (by lia);rw[List.getD_eq_getElem?_getD,List.getElem?_eq_getElem hj,Option.getD_some,e] at this;exact this)
     rw[this];exact fun z=>by cases z)
   have hF1:=(aE (o:=.lst [.non]) hL1) _ _ hFc
   have hdj1:∀j,j<b→(upd Hc L1 (.lst [.non])) (ds.getD j 0)=some (.lst (NV ((List.range n).map (far ts j)))):=fun j hj=>(aE hL1) _ _ (hdj j hj)
   generalize upd Hc L1 _=H1 at *
   refine⟨_,rfl,_,rfl,D,_,b,b,rfl,rfl,aB,by rw[List.length_replicate];exact cV hb,?_⟩
   rw[iE,oJ hb]
   refine⟨_,rfl,by show 1≤sizeLine;decide,fun R hR=>?_⟩
   have nDR:D≠R:=aG (H:=upd H1 D (.lst (rowV n [b] (fun _=>0)))) aB hR
   have hR0:H1 R=none:=by rw[aH nDR.symm] at hR;exact hR
   have fR:=s1.free hR0
   have hFR:F≠R:=aG hF1 hR0
   have dsR:∀c∈ds,c≠R:=fun c hc=>by
    rintro rfl
    obtain⟨j,hj,e⟩:=List.getElem_of_mem hc
    have:=hdj1 j (by lia)
    rw[List.getD_eq_getElem?_getD,List.getElem?_eq_getElem hj,Option.getD_some,e,hR0] at this
    cases this
   have sm0:Same H1 (upd (upd H1 D (.lst (rowV n [b] (fun _=>0)))) R (.lst [.int (b:Int)])):=bE (aE hD) hR0
   have hol1:=s1 _ _ hol
   have hbs1:∀u,u<n→H1 (bs.getD u 0)=some (.lst (NV (outN n ts u))):=fun u hu=>s1 _ _ (hbs u hu)
   refine rW (fun σ H2=>∃ (i:Nat) (Rs:List Nat) (f:Nat→Nat),i≤Rs.length∧Bfs n ts b i Rs f∧(∃v,σ=[some (.ref o),some (.ref F),some (.int (b:Int)),some (.ref D),some (.ref R),some (.int (i:Int)),v])∧Same H1 H2∧H2 D=some (.lst (rowV n Rs f))∧H2 R=some (.lst (NV Rs)))
    (fun σ _=>n-aE5 σ) ⟨0,[b],fun _=>0,Nat.zero_le _,Bfs.start hb,⟨_,rfl⟩,sm0,?_,aB⟩ ?_ ?_
   ·rw[aH nDR,aB]
   ·rintro σ H2 ⟨i,Rs,f,hi,Bf,⟨v',rfl⟩,sm,hD2,hR2⟩
    have hRn:Rs.length≤n:=dR Bf.nd Bf.lt
    refine⟨_,rfl,_,rfl,R,_,rfl,.inl (SqL.of hR2),_,_,rfl,rfl,_,rfl,?_⟩
    rw[bD]
    by_cases hin:i<Rs.length
    ·rw[show decide ((i:Int)<((Rs.length:Nat):Int))=true by simp;lia]
     refine iteT ?_
     have hu:Rs[i]?=some Rs[i]:=List.getElem?_eq_getElem hin
     generalize Rs[i]=u at hu
     have hun:u<n:=Bf.lt u (List.mem_of_getElem? hu)
     have huR:(NV Rs)[i]?=some (.int (u:Int)):=by rw[List.getElem?_map,hu];rfl
     have hb1:=zV (bs:=bs) (h:=u) (by rw[hbl];exact hun)
     have hb2:=sm _ _ (hbs1 _ hun)
     refine⟨_,rfl,_,rfl,_,rfl,R,_,_,_,rfl,rfl,SqL.of hR2,aM huR,o,_,_,_,rfl,rfl,SqL.of (sm _ _ hol1),aM hb1,_,rfl,⟨_,SqL.of hb2⟩,?_⟩
     refine dN (K:=K) (xs:=NV (outN n ts u)) (fun j σ H3=>∃ (Rs':List Nat) (f':Nat→Nat),Bfs n ts b i Rs' f'∧Rs'[i]?=some u∧(∀v∈(outN n ts u).take j,v∈Rs'∧f' v≤f' u+1)∧
      (∃c,σ=[some (.ref o),some (.ref F),some (.int (b:Int)),some (.ref D),some (.ref R),some (.int (i:Int)),c])∧Same H1 H3∧H3 D=some (.lst (rowV n Rs' f'))∧H3 R=some (.lst (NV Rs')))
      ⟨Rs,f,Bf,hu,fun v hv=>by simp at hv,⟨_,rfl⟩,sm,hD2,hR2⟩ (fun j σ H3 _ ⟨_,_,_,_,_,_,sm3,_⟩=>SqL.of (sm3 _ _ (hbs1 _ hun))) ?_ ?_
     ·rintro j x σ H3 hx ⟨Rs',f',Bf',hu',dn,⟨b',rfl⟩,sm3,hD3,hR3⟩
      obtain⟨v,hv,rfl⟩:=kD hx
      have hvm:v∈outN n ts u:=List.mem_of_getElem? hv
      have hvn:v<n:=lX fi hun hvm
      have tuv:T ts u v:=(eX fi hun).mp hvm
      have tk:(outN n ts u).take (j+1)=(outN n ts u).take j++[v]:=by rw[List.take_add_one,hv];rfl
      have hun':u∈Rs':=List.mem_of_getElem? hu'
      have hlen':Rs'.length≤n:=dR Bf'.nd Bf'.lt
      refine⟨_,rfl,_,rfl,D,_,_,_,rfl,rfl,SqL.of hD3,aM (fA hvn),rfl,_,rfl,?_⟩
      by_cases hvR:v∈Rs'
      ·rw[if_pos hvR]
       refine iteF ⟨Rs',f',Bf',hu',fun x hx=>?_,⟨_,rfl⟩,sm3,hD3,hR3⟩
       rw[tk] at hx
       rcases List.mem_append.mp hx with z|z
       ·exact dn x z
       ·simp at z;subst z;exact⟨hvR,Bf'.bd u hu' _ hvR⟩
      ·rw[if_neg hvR]
       refine iteT ?_
       have hg2:(rowV n Rs' f')[u]?=some (.int ((f' u:Nat):Int)):=by rw[fA hun,if_pos hun']
       refine⟨_,rfl,_,rfl,_,rfl,R,_,_,_,rfl,rfl,SqL.of hR3,aM (show (NV Rs')[i]?=some (.int (u:Int)) by rw[List.getElem?_map,hu'];rfl),D,_,_,_,rfl,rfl,SqL.of hD3,aM hg2,_,_,rfl,rfl,_,rfl,_,rfl,D,_,_,_,rfl,rfl,hD3,by rw[gD];exact cV hvn,?_⟩
       have e1:(rowV n Rs' f').set v (.int (((f' u:Nat):Int)+1))=rowV n (Rs'++[v]) (put f' v (f' u+1)):=by
        rw[show ((f' u:Nat):Int)+1=((f' u+1:Nat):Int) by lia,uG hvn]
       rw[e1]
       have hR4:(upd H3 D (.lst (rowV n (Rs'++[v]) (put f' v (f' u+1))))) R=some (.lst (NV Rs')):=by rw[aH nDR.symm];exact hR3
       refine⟨_,rfl,.inl ⟨rfl,_,SqL.of hR4⟩,_,rfl,R,_,_,rfl,rfl,hR4,by rw[bD];exact Nat.lt_of_lt_of_le (show Rs'.length<33 by lia) (by decide),?_⟩
       have hi':i<Rs'.length:=(List.getElem?_eq_some_iff.mp hu').1
       have nuv:u≠v:=fun z=>hvR (z ▸ hun')
       refine⟨Rs'++[v],put f' v (f' u+1),Bf'.add hu' hvn tuv hvR,by rw[List.getElem?_append_left hi'];exact hu',fun x hx=>?_,⟨_,rfl⟩,bE (bE sm3 hD) hR0,?_,?_⟩
       ·rw[dJ nuv]
        rw[tk] at hx
        rcases List.mem_append.mp hx with z|z
        ·obtain⟨q1,q2⟩:=dn x z
         exact⟨List.mem_append_left _ q1,by rw[dJ (fun (z:x=v)=>hvR (z ▸ q1))];exact q2⟩
        ·simp at z;subst z
         exact⟨by simp,by rw[gB];exact Nat.le_refl _⟩
       ·rw[aH nDR,aB]
       ·rw[aB,eO]
     ·rintro σ H3 ⟨Rs',f',Bf',hu',dn,⟨b',rfl⟩,sm3,hD3,hR3⟩
      rw[bD,List.take_length] at dn
      have hi':i<Rs'.length:=(List.getElem?_eq_some_iff.mp hu').1
      have hlen':Rs'.length≤n:=dR Bf'.nd Bf'.lt
      refine⟨_,rfl,_,_,rfl,rfl,⟨⟨i+1,Rs',f',hi',Bf'.next hu' (fun v t=>dn v ((eX fi hun).mpr t)),⟨_,rfl⟩,sm3,hD3,hR3⟩,?_⟩⟩
      show n-((i:Int)+1).toNat<n-(i:Int).toNat
      lia
    ·rw[show decide ((i:Int)<((Rs.length:Nat):Int))=false by rw[decide_eq_false_iff_not];lia]
     have e:rowV n Rs f=NV ((List.range n).map (far ts b)):=by
      unfold rowV NV
      rw[List.map_map]
      refine List.map_congr_left fun x hx=>?_
      obtain⟨q1,q2⟩:=Bf.done fi (by lia) (List.mem_range.mp hx)
      rw[if_pos q1,q2];rfl
     rw[e] at hD2
     have hF2:=sm _ _ hF1
     refine iteF ⟨_,rfl,.inl ⟨rfl,_,SqL.of hF2⟩,_,rfl,F,_,_,rfl,rfl,hF2,by rw[List.length_map,dl];exact Nat.lt_of_lt_of_le (show b<33 by lia) (by decide),?_⟩
     refine⟨⟨_,_,_,_,_,rfl⟩,fun c ob ec=>?_,ds++[D],by rw[aB,List.map_append];rfl,fun c hc=>?_,by rw[List.length_append,dl];rfl,fun j hj=>?_⟩
     ·rw[aH (aG ec hF)];exact sm _ _ (s1 _ _ ec)
     ·rcases List.mem_append.mp hc with z|z
      ·exact hds c z
      ·rw[List.mem_singleton.mp z];exact⟨fD,hFD.symm⟩
     ·by_cases c:j<b
      ·have m:=aEq (cs:=ds) (j:=j) (by lia)
       have e:(ds++[D]).getD j 0=ds.getD j 0:=by rw[List.getD_eq_getElem?_getD,List.getD_eq_getElem?_getD,List.getElem?_append_left (by lia)]
       rw[e,aH (hds _ m).2]
       exact sm _ _ (hdj1 j c)
      ·obtain rfl:j=b:=by lia
       have e:(ds++[D]).getD j 0=D:=by rw[List.getD_eq_getElem?_getD,List.getElem?_append_right (by lia),dl,Nat.sub_self];rfl
       rw[e,aH hFD.symm]
       exact hD2
   ·rintro σ H2 Q1 Q2 imp ⟨v,e1,v2,e2,p,ys,e3,e4,i1,i2,e5,e6,kk,e7,q⟩
    exact⟨v,e1,v2,e2,p,ys,e3,e4,i1,i2,e5,e6,kk,e7,imp _ _ q⟩
end
end K12
namespace L2
open PySem PySem.Spec PyProof.Rows
theorem aBy{X:Cx}:cU X (.type "int") (fun xs H Q=>∃b,xs=[.bl b]∧Q (.int (if b then 1 else 0)) H):=by
 intro pins s σ H xs us Q I r h
 obtain⟨b,rfl,q⟩:=h
 obtain⟨u1,rfl,r1⟩:=r.one
 obtain rfl:u1=Value.bool b:=r1
 exact call_int_bool ⟨.int _,H,I.tok _,⟨_,rfl⟩,q⟩
end L2
namespace K12
open PySem L2 NetM
abbrev sNet:Stmt:=top 41
theorem lK:(["_law_one","_law_other"]:List Str).Nodup:=by decide +kernel
def zW(p:Addr)(H:Hp)(Q:V→Hp→Prop):Prop:=∀ (t r:Addr) (n:Nat) (zs:Zs) (H':Hp),aO p H H'→aY H' p→H t=none→H' t=some (.tup [.int n,.ref r])→H r=none→H' r=some (.lst (zr zs))→PO H' zs→Fine n (zp zs)→Q (.ref t) H'
def zX:Sp:=fun vs H Q _=>∃ (p:Addr),vs=[.ref p]∧aY H p∧zW p H Q
theorem zW.go{p r t:Addr}{H H2:Hp}{Q:V→Hp→Prop}{n:Nat}{zs:Zs}(k:zW p H Q)(s:aO p H H2)(hp:aY H2 p)(hr:H r=none)(hr2:H2 r=some (.lst (zr zs)))(po:PO H2 zs)(F:Fine n (zp zs))(ht:H2 t=none):Q (.ref t) (upd H2 t (.tup [.int n,.ref r])):=
 k t r n zs _ (s.trans (aO.of (aE ht))) (hp.same (aE ht)) (s.free hp.full ht) aB hr (aE ht _ _ hr2) (po.putN ht) F
section
variable {P:Program} {w:World} {K:PySem.W.Frag} {mg:Str→Option Value} {base:Heap}
theorem gO:aW ["_law_pot_here","_law_way","_law_many","_law_pairs"] ["_law_pot_here"] (aL sNet):=⟨rfl,rfl,rfl,by decide +kernel,rfl,by decide +kernel,by decide +kernel⟩
theorem aEr{f:Addr}{fd:FuncData}(F:Fun K "_law_net" "_law_net" sNet f fd)(B:Bl mg)(D:Cal P w K mg base CX0 1 "_law_take" ["_law_pot_here","_law_many"] eL)(RG:Cal P w K mg base CX0 1 "_law_ring" ["_law_many"] oO)(BX:Cal P w K mg base CX0 2 "_law_box" ["_law_pot_here"] mH)(WO:Cal P w K mg base CX0 2 "_law_words" ["_law_pot_here"] mH)(SP:Cal P w K mg base CX0 2 "_law_some_pairs" ["_law_pot_here","_law_many","_law_more"] uR)(OW:Cal P w K mg base CX0 2 "_law_one_way" ["_law_pot_here","_law_many"] zT)(RN:Cal P w K mg base CX0 2 "_law_renamed" ["_law_pot_here","_law_many","_law_ties"] rO):FnOk P w K mg base CX0 3 f fd ["_law_pot_here"] zX:=by
 refine F.ok gO (fun vs H Q E h=>?_) (fun cdv A outer s H vs Q E h2 h=>?_)
 ·obtain⟨p,rfl,_⟩:=h
  rfl
 ·obtain⟨p,rfl,hp,q⟩:=h
  have h1:Room 1 _:=h2.mono (by decide)
  refine'⟨_,(aF (aT (i:=1) gO.nd rfl (Or.inl rfl) (aN D h1 aQ (aA (pv 0) (aA aJ aD))))
   (aF (aT (i:=2) gO.nd rfl (Or.inl rfl) (aV cD aJ (aN D h1 aQ (aA (pv 0) (aA (aS aP (bY (aA aJ (aA aJ (aA aJ aD)))) (aN D h1 aQ (aA (pv 0) (aA aJ aD))) (fun _ _=>rfl)) aD)))))
   (aF (bZ (aX dX (pv 1) aJ (aZ _)) (aI (bA (bW (aA (pv 2) (aA (aN RN h2 aQ (aA (pv 0) (aA (pv 2) (aA (aN OW h2 aQ (aA (pv 0) (aA (pv 2) aD))) aD)))) aD))))) bS)
   (aF (bZ (aX dX (pv 1) aJ (aZ _)) (aI (aT (i:=3) gO.nd rfl (Or.inl rfl) (aN RG h1 aQ (aA (pv 2) aD)))) (aI (bZ (aX dX (pv 1) aJ (aZ _)) (aI (cK (aN BX h2 aQ (aA (pv 0) aD)) (cM (n:=2) rfl (aR (aK (i:=2) gO.nd rfl (Or.inl rfl)) (aR (aK (i:=3) gO.nd rfl (Or.inl rfl)) cF))))) (aI (bZ (aX dX (pv 1) aJ (aZ _)) (aI (cK (aN WO h2 aQ (aA (pv 0) aD)) (cM (n:=2) rfl (aR (aK (i:=2) gO.nd rfl (Or.inl rfl)) (aR (aK (i:=3) gO.nd rfl (Or.inl rfl)) cF))))) (aF (aT (i:=2) gO.nd rfl (Or.inl rfl) (aV gU (pv 2) (cJ aBy (by rfl) B.int PyProof.Rows.boot_int (aA (jI dX (pv 1) aJ (aZ _)) aD))))
      (aI (aT (i:=3) gO.nd rfl (Or.inl rfl) (aN SP h2 aQ (aA (pv 0) (aA (pv 2) (aA (aS aP (bY (aA aJ (aA aJ (aA (pv 2) aD)))) (aV gU (pv 1) aJ) (fun _ _=>rfl)) aD))))))))))))
   (aI (bA (bW (aA (pv 2) (aA (aN RN h2 aQ (aA (pv 0) (aA (pv 2) (aA (aV kP (pv 3) ?c1) aD)))) aD))))))))),?_⟩
  case c1=>
   refine' cG (g:=(gTup K 2 (cY (bB 0) (cY (bB 1) gNil)))) (te:=(tTup (bJ (tVar 1) (bJ (tVar 0) tNil)))) (NB:=["_law_one","_law_other"]) (src:=[none,none]) (bP (by kernel_rfl)) rfl (bN (pv 3)) ?g ?t ?e
   case g=>exact fun cl C s₃ H₃ fp=>(cM (n:=2) rfl (aR (aK (i:=0) lK rfl (Or.inl rfl) (Or.inr rfl)) (aR (aK (i:=1) lK rfl (Or.inl rfl) (Or.inr rfl)) cF)))
   case t=>exact fun cl C s₃ H₃ fp=>cQ
   case e=>exact fun cl C s₃ H₃ fp=>(bW (aA (pv 1) (aA (pv 0) aD)))
  refine⟨_,rfl,p,7,rfl,by decide,by decide,hp,fun wy H1 hw s1 hp1=>?_⟩
  refine⟨_,rfl,by show 3≤sizeLine;decide,fun l hl=>⟨_,rfl,p,3,rfl,by decide,by decide,hp1.same (aE hl),fun d H2 hd s2 hp2=>?_⟩⟩
  have gl:=s2 _ _ (aB (H:=H1) (a:=l) (o:=.lst [.int 4,.int 10,.int 30])) (hp1.ne hl)
  obtain⟨m,hm,m1,m2⟩:∃m:Nat,atI [V.int 4,.int 10,.int 30] (d:Int)=some (.int m)∧4≤m∧m≤30:=by
   rcases(show d=0∨d=1∨d=2 by lia) with rfl|rfl|rfl
   ·exact⟨4,aM (j:=0) rfl,by decide,by decide⟩
   ·exact⟨10,aM (j:=1) rfl,by decide,by decide⟩
   ·exact⟨30,aM (j:=2) rfl,by decide,by decide⟩
  refine⟨l,_,_,_,rfl,rfl,SqL.of gl,hm,p,m,rfl,by lia,by lia,hp2,fun d2 H3 hd2 s3 hp3=>⟨_,_,rfl,rfl,?_⟩⟩
  have sH:aO p H H3:=((s1.trans (aO.of (aE hl))).trans s2).trans s3
  obtain⟨n,hn⟩:∃n:Nat,n=3+d2:=⟨_,rfl⟩
  have en:(3:Int)+(d2:Int)=((n:Nat):Int):=by lia
  change bB 2 (V.int ((3:Int)+(d2:Int))) _ _ _
  rw[en]
  have n1:3≤n:=by lia
  have n2:n≤32:=by lia
  clear gl hm s1 s2 s3 hp1 hp2 hl hd en
  have fin:∀ (m:Nat) (r:Addr) (zs:Zs) (H4:Hp),aO p H H4→aY H4 p→H r=none→H4 r=some (.lst (zr zs))→PO H4 zs→Fine m (dbl (zp zs))→tRet (tTup (bJ (tVar 2) (bJ (lQ rO [] E0 (bJ (tVar 0) (bJ (tVar 2) (bJ (tOp rCat (tVar 3) (yF [none,none] (aCm K (tVar 3)) (gTup K 2 (cY (bB 0) (cY (bB 1) gNil))) tYes (tTup (bJ (tVar 1) (bJ (tVar 0) tNil))))) tNil)))) tNil))) { nx:=fun _ H'=>Q .non H',rt:=Q } [some (.ref p),some (.int (wy:Nat)),some (.int (m:Nat)),some (.ref r)] H4:=fun m r zs H4 sH hp4 hr hr4 po Fi=>by
   have zl:zs.length≤256:=by have:=Fi.len;rw[mB,bH] at this;lia
   refine⟨_,rfl,_,rfl,_,rfl,_,rfl,_,rfl,r,rfl,⟨_,SqL.of hr4⟩,fun D1 hD1=>?_⟩
   refine nF swp (fun σ=>∃a b,σ=[a,b]) hr4 po hD1 (by lia) ⟨_,_,rfl⟩ ?_ ?_
   ·rintro z σ H5 R Kf hz ⟨a,b,rfl⟩ _ ha kt
    exact⟨z.1,_,rfl,SqT.of ha,rfl,_,_,rfl,_,_,rfl,rfl,_,rfl,_,rfl,by show 2≤sizeLine;decide,fun t ht=>kt _ _ ⟨_,_,rfl⟩ ht⟩
   intro zs2 H5 s5 hD5 po5 e5 _
   refine⟨r,D1,_,_,rfl,rfl,s5 _ _ hr4,hD5,by rw[cL,cL,← bH,← bH,e5,List.length_map,bH];exact Nat.le_trans (show _≤512 by lia) (by decide),fun L hL=>?_⟩
   have sL:=aE (o:=.lst (zr zs++zr zs2)) hL
   have F2:Fine m (zp (zs++zs2)):=by rw[dM,e5];exact Fi.perm eZ.symm
   refine⟨p,L,m,zs++zs2,rfl,(hp4.same s5).same sL,by rw[aB,dL],((po.same s5).append po5).same sL,(hp4.same s5).ne hL,F2,fun r3 zs3 H6 s6 hp6 hr6 hr6' po6 F6=>⟨by show 2≤sizeLine;decide,fun t ht=>?_⟩⟩
   have sA:aO p H H6:=(sH.trans (aO.of (s5.trans sL))).trans s6
   exact q.go sA hp6 ((sH.trans (aO.of s5)).free (hp4.same s5).full (sL.free hr6)) hr6' po6 F6 ht
  refine⟨_,rfl,rfl,_,rfl,ite2 (fun c=>?_) (fun c6=>?_)⟩
  ·refine⟨_,rfl,_,rfl,_,rfl,_,rfl,_,rfl,p,n,rfl,by lia,n2,hp3,fun r zs H4 s4 hp4 hr hr4 po F4=>?_⟩
   refine⟨p,r,n,zs,rfl,hp4,hr4,po,hp3.ne hr,F4,fun r3 zs3 H6 s6 hp6 hr6 hr6' po6 F6=>⟨by show 2≤sizeLine;decide,fun t ht=>?_⟩⟩
   exact q.go ((sH.trans s4).trans s6) hp6 ((sH.trans s4).free hp4.full hr6) hr6' po6 F6 ht
  unfold aCl
  dsimp only
  refine kB (fun σ Hc=>∃ (m:Nat) (r:Addr) (zs:Zs),σ=[some (.ref p),some (.int (wy:Nat)),some (.int (m:Nat)),some (.ref r)]∧aO p H Hc∧aY Hc p∧H r=none∧Hc r=some (.lst (zr zs))∧PO Hc zs∧Fine m (dbl (zp zs))) ?_ ?_
  ·rintro σ Hc ⟨m,r,zs,rfl,a1,a2,a3,a4,a5,a6⟩
   exact fin m r zs Hc a1 a2 a3 a4 a5 a6
  clear fin
  intro N hN
  have fr:∀ {a:Addr},H3 a=none→H a=none:=fun h=>sH.free hp3.full h
  refine⟨_,rfl,rfl,_,rfl,ite2 (fun c=>?_) (fun c0=>?_)⟩
  ·exact⟨_,rfl,n,rfl,by lia,n2,fun r zs H4 s4 hr hr4 po ez=>hN _ _ ⟨n,r,zs,rfl,sH.trans (aO.of s4),hp3.same s4,fr hr,hr4,po,by rw[ez];exact aBo n1 n2⟩⟩
  refine⟨_,rfl,rfl,_,rfl,ite2 (fun c=>?_) (fun c1=>?_)⟩
  ·exact⟨_,rfl,p,rfl,hp3,fun t r m zs H4 s4 hp4 ht hr ht4 hr4 po F4=>⟨t,_,rfl,SqT.of ht4,rfl,_,_,rfl,_,_,rfl,rfl,hN _ _ ⟨m,r,zs,rfl,sH.trans s4,hp4,fr hr,hr4,po,F4⟩⟩⟩
  refine⟨_,rfl,rfl,_,rfl,ite2 (fun c=>?_) (fun c2=>?_)⟩
  ·exact⟨_,rfl,p,rfl,hp3,fun t r m zs H4 s4 hp4 ht hr ht4 hr4 po F4=>⟨t,_,rfl,SqT.of ht4,rfl,_,_,rfl,_,_,rfl,rfl,hN _ _ ⟨m,r,zs,rfl,sH.trans s4,hp4,fr hr,hr4,po,F4⟩⟩⟩
  have hw3:3≤wy∧wy≤5:=by
   have a0:wy≠0:=fun z=>c0 (by rw[z];rfl)
   have a1:wy≠1:=fun z=>c1 (by rw[z];rfl)
   have a2:wy≠2:=fun z=>c2 (by rw[z];rfl)
   have a6:wy≠6:=fun z=>c6 (by rw[z];rfl)
   lia
  obtain⟨k,hk,k1,k2⟩:∃k:Nat,(n:Int)-(if decide (V.int (wy:Int)=V.int 3)=true then 1 else 0)=(k:Int)∧2≤k∧k≤32:=by
   by_cases e:wy=3
   ·exact⟨n-1,by rw[if_pos (by rw[e];rfl)];lia,by lia,by lia⟩
   ·exact⟨n,by rw[if_neg (by simp;lia)];lia,by lia,by lia⟩
  refine⟨_,rfl,_,rfl,rfl,_,rfl,_,_,rfl,rfl,?_⟩
  change bB 2 (V.int ((n:Int)-(if decide (V.int (wy:Int)=V.int 3)=true then 1 else 0))) _ _ _
  rw[hk]
  refine⟨_,rfl,_,rfl,_,rfl,by show 3≤sizeLine;decide,fun l hl=>⟨_,rfl,_,_,rfl,rfl,?_⟩⟩
  have sl:=aE (o:=.lst [.int 0,.int 3,.int (k:Int)]) hl
  obtain⟨g,hg,g1⟩:∃g:Nat,atI [V.int 0,.int 3,.int (k:Int)] ((wy:Int)-3)=some (.int g)∧g≤64:=by
   rcases(show wy=3∨wy=4∨wy=5 by lia) with e|e|e <;> rw[e]
   ·exact⟨0,aM (j:=0) rfl,by decide⟩
   ·exact⟨3,aM (j:=1) rfl,by decide⟩
   ·exact⟨k,aM (j:=2) rfl,by lia⟩
  refine⟨l,_,_,_,rfl,rfl,SqL.of aB,hg,p,k,g,rfl,k1,k2,g1,hp3.same sl,fun r zs H4 s4 hp4 hr hr4 po F4=>?_⟩
  exact hN _ _ ⟨k,r,zs,rfl,(sH.trans (aO.of sl)).trans s4,hp4,fr (sl.free hr),hr4,po,F4⟩
end
end K12
namespace K12
open PySem L2 NetM
abbrev uW:Stmt:=top 42
theorem oQ:(["_law_k","_law_house","_law_many"]:List Str).Nodup:=by decide +kernel
theorem kF:(["_law_other","_law_house","_law_there"]:List Str).Nodup:=by decide +kernel
theorem aDx{lo:Int}{n:Nat}{D:Addr}{g:TG}{tt:TT}{te:TE}{fin:Hp→Prop}{σB:St}{H0:Hp}(G:Nat→V)(shape:St→Prop)(hD:H0 D=none)(hn:n≤1000)(h0:shape σB)(hs:∀x σ H (R:V→St→Hp→Prop) (Kf:St→Hp→Prop),x<n→shape σ→Same H0 H→(∀σ2 H2,shape σ2→Same H H2→R (G x) σ2 H2)→g (.int (lo+(x:Nat))) σ H fun σ2 H2=>tt σ2 H2 fun b H3=>if b=true then te σ2 H3 fun v H4=>R v σ2 H4 else Kf σ2 H3)(hd:∀H,Same H0 H→H D=some (.lst ((List.range n).map G))→fin H):dP (Itr lo n) g tt te D fin σB (upd H0 D (.lst [])):=by
 refine dZ (fun i ys σ H=>shape σ∧Same H0 H∧H D=some (.lst ys)∧ys=(List.range i).map G) ⟨h0,aE hD,aB,rfl⟩ ?_ ?_
 ·rintro i ys σ H Kt Kf hi ⟨sh,sm,hDl,rfl⟩ kt kf
  refine hs i σ H Kt Kf hi sh sm (fun σ2 H2 sh2 s2=>?_)
  refine kt _ _ _ (s2 _ _ hDl) ?_ ⟨sh2,bE (sm.trans s2) hD,aB,by rw[List.range_succ,List.map_append];rfl⟩
  rw[List.length_map,List.length_range]
  exact Nat.lt_of_lt_of_le (show i<1000 by lia) (by decide)
 ·rintro ys σ H ⟨_,sm,hDl,rfl⟩
  exact hd H sm hDl
theorem pS{β:Type}{K:PySem.W.Frag}{a D:Addr}{g:TG}{tt:TT}{te:TE}{fin:Hp→Prop}{σB:St}{H0:Hp}(ms:List β)(e:β→V)(c:β→Bool)(shape:St→Prop)(ha:H0 a=some (.lst (ms.map e)))(hD:H0 D=none)(hn:ms.length≤1000)(h0:shape σB)(hs:∀m σ H (Kt:V→St→Hp→Prop) (Kf:St→Hp→Prop),m∈ms→shape σ→Same H0 H→(∀σ2 H2,shape σ2→Same H H2→c m=true→Kt (e m) σ2 H2)→(∀σ2 H2,shape σ2→Same H H2→c m=false→Kf σ2 H2)→
   g (e m) σ H fun σ2 H2=>tt σ2 H2 fun b H3=>if b=true then te σ2 H3 fun v H4=>Kt v σ2 H4 else Kf σ2 H3)(hd:∀H,Same H0 H→H D=some (.lst ((ms.filter c).map e))→fin H):dP (Itl K a) g tt te D fin σB (upd H0 D (.lst [])):=by
 refine dI (xs:=ms.map e) (fun i ys σ H=>shape σ∧Same H0 H∧H D=some (.lst ys)∧ys=((ms.take i).filter c).map e) ⟨h0,aE hD,aB,rfl⟩ (fun i ys σ H _ z=>SqL.of (z.2.1 _ _ ha)) ?_ ?_
 ·rintro i x ys σ H Kt Kf hx ⟨sh,sm,hDl,rfl⟩ kt kf
  rw[List.getElem?_map] at hx
  cases hz:ms[i]? with
  |none=>rw[hz] at hx;cases hx
  |some m=>
   rw[hz] at hx
   obtain rfl:e m=x:=Option.some.inj hx
   have tk:ms.take (i+1)=ms.take i++[m]:=by rw[List.take_add_one,hz];rfl
   refine hs m σ H Kt Kf (List.mem_of_getElem? hz) sh sm (fun σ2 H2 sh2 s2 hc=>?_) (fun σ2 H2 sh2 s2 hc=>?_)
   ·refine kt _ _ _ (s2 _ _ hDl) ?_ ⟨sh2,bE (sm.trans s2) hD,aB,by rw[tk,List.filter_append];simp[List.filter_cons,hc]⟩
    rw[List.length_map]
    exact Nat.lt_of_le_of_lt (Nat.le_trans (List.length_filter_le _ _) (List.length_take_le' _ _)) (Nat.lt_of_le_of_lt hn (by decide))
   ·exact kf _ _ ⟨sh2,sm.trans s2,s2 _ _ hDl,by rw[tk,List.filter_append];simp[List.filter_cons,hc]⟩
 ·rintro ys σ H ⟨_,sm,hDl,rfl⟩
  rw[List.length_map,List.take_length] at hDl
  exact hd H sm hDl
def tk2(u:Int×Int):List Key:=[.inl u.1,.inl u.2]
theorem uX{k:List Key}:∀ {ps:List TK} {m:List (List Key×V)},(valV (cP m ps) k).isSome=true↔(valV m k).isSome=true∨k∈ps.map fun p:TK=>p.1
 |[],m=>by unfold cP;simp
 |p::ps,m=>by
  have ih:=uX (k:=k) (ps:=ps) (m:=putK m p.1 p.2.2)
  rw[show cP m (p::ps)=cP (putK m p.1 p.2.2) ps from rfl,ih,aBQ]
  by_cases c:k=p.1
  ·rw[if_pos c];simp[c]
  ·rw[if_neg c,List.map_cons];simp[c]
theorem aDy{u:Int×Int}{ts:Ts}:tk2 u∈ts.map tk2↔u∈ts:=by
 constructor
 ·intro h
  obtain⟨v,hv,e⟩:=List.mem_map.mp h
  unfold tk2 at e
  injection e with e1 e2
  injection e2 with e2 _
  rw[show u=v from Prod.ext (Sum.inl.inj e1).symm (Sum.inl.inj e2).symm]
  exact hv
 ·exact fun h=>List.mem_map.mpr ⟨u,h,rfl⟩
theorem aDz{n:Nat}{ts:Ts}(F:Fine n ts){h:Nat}(hh:h<n):((List.range (n-1)).map fun s=>(h+(s+1)) % n).filter (fun o=>decide ((ci h,ci o)∈ts))=outN n ts h:=by
 unfold outN
 obtain⟨m,rfl⟩:∃m,n=m+1:=⟨n-1,by lia⟩
 have e0:(h+0) % (m+1)=h:=Nat.mod_eq_of_lt hh
 rw[List.range_succ_eq_map,List.map_cons,List.filter_cons,List.map_map,e0]
 have nt:¬ T ts h h:=fun z=>F.ne _ z rfl
 rw[if_neg (fun z=>nt (of_decide_eq_true z)),show m+1-1=m from rfl]
 exact List.filter_congr fun o _=>decide_eq_decide.mpr Iff.rfl
theorem aEs:(["_law_tie"]:List Str).Nodup:=by decide +kernel
section
variable {P:Program} {w:World} {K:PySem.W.Frag} {mg:Str→Option Value} {base:Heap}
theorem jR:aW ["_law_many","_law_ties","_law_there","_law_found","_law_house","_law_around"] ["_law_many","_law_ties"] (aL uW):=⟨rfl,rfl,rfl,by decide +kernel,rfl,by decide +kernel,by decide +kernel⟩
def pT:Sp:=fun vs H Q _=>∃ (n:Nat) (l:Addr) (zs:Zs),vs=[.int n,.ref l]∧H l=some (.lst (zr zs))∧PO H zs∧Fine n (zp zs)∧∀ (r:Addr) (H':Hp),Same H H'→H r=none→bL H' (fun a=>H a=none) r n (outN n (zp zs))→Q (.ref r) H'
theorem aCh{f:Addr}{fd:FuncData}(F:Fun K "_law_outs" "_law_outs" uW f fd)(B:Bl mg)(B2:Bl2 mg):FnOk P w K mg base CX0 1 f fd ["_law_many","_law_ties"] pT:=by
 refine F.ok jR (fun vs H Q E h=>?_) (fun cdv A outer s H vs Q E hr h=>?_)
 ·obtain⟨n,l,zs,rfl,_⟩:=h
  rfl
 ·obtain⟨n,l,zs,rfl,hl,po,Fi,q⟩:=h
  have n1:=Fi.n1
  have n2:=Fi.n2
  have zl:zs.length≤256:=by have:=Fi.len;rwa [bH] at this
  refine'⟨_,(aF (aT (i:=2) jR.nd rfl (Or.inr rfl) (cJ (zJ rfl hr.u) (by rfl) B2.dict PyProof.Rows.boot_dict (aA ?c1 aD)))
   (aF (aT (i:=3) jR.nd rfl (Or.inl rfl) (bY aD))
   (aF (cH PassesOwn.never rfl (bT rfl B.range (aA (pv 0) aD)) (aK (i:=4) jR.nd rfl (Or.inr rfl))
    (aF (dB (i:=5) (g:=(bB 0)) (te:=(tOp (rI (fun _ j=>0<j) fun i j=>.int (i % j)) (tOp (rI0 fun i j=>.int (i+j)) (tVar 1) (tVar 0)) (tVar 2))) (NB:=["_law_k","_law_house","_law_many"]) (src:=[none,some 4,some 0]) (bP (by kernel_rfl)) rfl (kL rfl B.range (aA aJ (aA (pv 0) aD))) ?g2 ?t2 ?e2 jR.nd rfl rfl rfl)
    (aI (bV (dA PySem.F.plainAttrs_list PySem.F.slot_list_append PySem.F.type_list_append cE (pv 3) (aA ?c3 aD))))))
   (aI (bA (pv 3)))))),?_⟩
  case c1=>
   refine' cG (g:=(bB 0)) (te:=(tTup (bJ (tVar 0) (bJ (tC (.bl true)) tNil)))) (NB:=["_law_tie"]) (src:=[none]) (bP (by kernel_rfl)) rfl (bN (pv 1)) ?g ?t ?e
   case g=>exact fun cl C s₃ H₃ fp=>(aK (i:=0) aEs rfl (Or.inl rfl) (Or.inr rfl))
   case t=>exact fun cl C s₃ H₃ fp=>cQ
   case e=>exact fun cl C s₃ H₃ fp=>(bW (aA (pv 0) (aA nK aD)))
  case g2=>exact fun cl C s₃ H₃ fp=>(aK (i:=0) oQ rfl (Or.inl rfl) (Or.inr rfl))
  case t2=>exact fun cl C s₃ H₃ fp=>cQ
  case e2=>exact fun cl C s₃ H₃ fp=>(aV fK (aV cD (pv 1) (pv 0)) (pv 2))
  case c3=>
   refine' cG (g:=(bB 0)) (tt:=(tB (tDIn (tTup (bJ (tVar 1) (bJ (tVar 0) tNil))) (tVar 2)))) (te:=(tVar 0)) (NB:=["_law_other","_law_house","_law_there"]) (src:=[none,some 4,some 2]) (bP (by kernel_rfl)) rfl (bN (pv 5)) ?g ?t ?e
   case g=>exact fun cl C s₃ H₃ fp=>(aK (i:=0) kF rfl (Or.inl rfl) (Or.inr rfl))
   case t=>exact fun cl C s₃ H₃ fp=>dF (aDS (aD4 hr.u (bW (aA (pv 1) (aA (pv 0) aD))) (pv 2)))
   case e=>exact fun cl C s₃ H₃ fp=>(pv 0)
  refine⟨_,rfl,l,rfl,⟨_,SqL.of hl⟩,fun D1 hD1=>?_⟩
  refine dI (xs:=zr zs) (fun i ys σ H2=>(∃x,σ=[x])∧Same H H2∧H2 D1=some (.lst ys)∧∃as:List Addr,ys=as.map V.ref∧as.length=i∧∀j,j<i→∃z,zs[j]?=some z∧H2 (as.getD j 0)=some (.tup [.ref z.1,.bl true])) ⟨⟨_,rfl⟩,aE hD1,aB,[],rfl,rfl,fun j hj=>absurd hj (Nat.not_lt_zero _)⟩ (fun i ys σ H2 _ z=>SqL.of (z.2.1 _ _ hl)) ?_ ?_
  ·rintro i x ys σ H2 Kt Kf hx ⟨⟨x',rfl⟩,sm,hDl,as,rfl,al,ah⟩ kt kf
   obtain⟨z,hz,rfl⟩:=lE hx
   have hi:i<zs.length:=(List.getElem?_eq_some_iff.mp hz).1
   refine⟨_,rfl,by show 2≤sizeLine;decide,fun t ht=>?_⟩
   have st:=aE (o:=.tup [.ref z.1,.bl true]) ht
   have nD:D1≠t:=aG hDl ht
   refine kt _ _ _ (st _ _ hDl) (by rw[List.length_map,al];exact Nat.lt_of_lt_of_le (show i<1000 by lia) (by decide)) ⟨⟨_,rfl⟩,bE (sm.trans st) hD1,aB,as++[t],by rw[List.map_append];rfl,by rw[List.length_append,al];rfl,fun j hj=>?_⟩
   by_cases c:j<i
   ·obtain⟨z',e1,e2⟩:=ah j c
    refine⟨z',e1,?_⟩
    have e3:=st _ _ e2
    rw[List.getD_eq_getElem?_getD,List.getElem?_append_left (by lia),← List.getD_eq_getElem?_getD,aH (by rintro e;rw[e,st _ _ hDl] at e3;cases e3)]
    exact e3
   ·obtain rfl:j=i:=by lia
    refine⟨z,hz,?_⟩
    rw[List.getD_eq_getElem?_getD,List.getElem?_append_right (by lia),al,Nat.sub_self]
    show (upd _ D1 _) t=_
    rw[aH nD.symm]
    exact aB
  rintro ys σ H2 ⟨_,s2,hD2,as,rfl,al,ah⟩
  rw[cL] at al ah
  refine⟨D1,as,zs.map fun z=>(tk2 z.2,z.1,V.bl true),rfl,hD2,by rw[List.length_map];exact al,fun i hi=>?_,by rw[List.length_map];lia,fun Kn hK=>?_⟩
  ·rw[List.length_map] at hi
   obtain⟨z,e1,e2⟩:=ah i hi
   exact⟨tk2 z.2,z.1,.bl true,by rw[List.getElem?_map,e1];rfl,e2,s2 _ _ (po z (List.mem_of_getElem? e1))⟩
  have known:∀u:Int×Int,(valV (cP [] (zs.map fun z=>(tk2 z.2,z.1,V.bl true))) (tk2 u)).isSome=decide (u∈zp zs):=fun u=>by
   rw[Bool.eq_iff_iff,uX,List.map_map,decide_eq_true_eq]
   have e:((fun p:TK=>p.1) ∘ fun z:Addr×Int×Int=>(tk2 z.2,z.1,V.bl true))=tk2 ∘ fun z:Addr×Int×Int=>z.2:=rfl
   rw[e,← List.map_map]
   have:=aDy (u:=u) (ts:=zp zs)
   unfold zp at this ⊢
   rw[this]
   simp[valV]
  have sK:=aE (o:=.dT (cP [] (zs.map fun z=>(tk2 z.2,z.1,V.bl true)))) hK
  have hKK:(upd H2 Kn (.dT (cP [] (zs.map fun z=>(tk2 z.2,z.1,V.bl true))))) Kn=some (.dT (cP [] (zs.map fun z=>(tk2 z.2,z.1,V.bl true)))):=aB
  generalize cP [] _=kd at *
  refine⟨by show 0≤sizeLine;decide,fun R hR=>?_⟩
  have s3:Same H _:=s2.trans sK
  have hK3:=aE (o:=.lst []) hR _ _ hKK
  have hRH:=s3.free hR
  have s4:=s3.trans (aE (o:=.lst []) hR)
  refine⟨_,rfl,(n:Int),rfl,by lia,by lia,cR (n:=n) (lo:=0) (fun i σ Hc=>(∃a b,σ=[some (.int n),some (.ref l),some (.ref Kn),some (.ref R),a,b])∧Same H Hc∧Hc Kn=some (.dT kd)∧∃bs:List Addr,Hc R=some (.lst (bs.map V.ref))∧(∀b∈bs,H b=none∧b≠R)∧Holds Hc bs i fun h=>.lst (NV (outN n (zp zs) h))) ⟨⟨_,_,rfl⟩,s4,hK3,[],aB,fun b hb=>(nomatch hb),Holds.nil⟩ ?_ ?_⟩
  ·rintro i σ Hc hi ⟨⟨x4,x5,rfl⟩,sc,hKc,bs,hRc,fr,hb⟩
   have nKR:Kn≠R:=by rintro rfl;rw[hKc] at hRc;cases hRc
   rw[Int.zero_add]
   refine⟨_,rfl,1,(n:Int),rfl,⟨by decide,by decide,by lia,by lia⟩,fun D2 hD2=>?_⟩
   rw[show ((n:Int)-1).toNat=n-1 by lia]
   refine aDx (lo:=1) (n:=n-1) (fun s=>V.int (((i+(s+1)) % n:Nat):Int)) (fun σ=>∃x,σ=[x,some (.int (i:Nat)),some (.int n)]) hD2 (by lia) ⟨_,rfl⟩ ?_ ?_
   ·rintro x σ H4 R' Kf hx ⟨x',rfl⟩ sm4 kt
    have e:((i:Int)+(1+(x:Int))) % (n:Int)=(((i+(x+1)) % n:Nat):Int):=by lia
    refine⟨_,rfl,_,rfl,_,_,rfl,rfl,_,rfl,_,_,rfl,rfl,(by show (0:Int)<(n:Int);lia),?_⟩
    have:=kt [some (.int (1+(x:Int))),some (.int (i:Nat)),some (.int n)] H4 ⟨_,rfl⟩ (Same.refl _)
    rw[← e] at this
    exact this
   intro H4 s4 hD4
   have hD4':H4 D2=some (.lst (((List.range (n-1)).map fun s=>(i+(s+1)) % n).map fun (x:Nat)=>V.int (x:Int))):=by rw[hD4,List.map_map];rfl
   have hR4:=s4 _ _ hRc
   refine⟨_,rfl,.inl ⟨rfl,_,SqL.of hR4⟩,_,rfl,D2,rfl,⟨_,SqL.of hD4'⟩,fun D3 hD3=>?_⟩
   refine pS ((List.range (n-1)).map fun s=>(i+(s+1)) % n) (fun (x:Nat)=>V.int (x:Int)) (fun o=>decide ((ci i,ci o)∈zp zs)) (fun σ=>∃x,σ=[x,some (.int (i:Nat)),some (.ref Kn)]) hD4' hD3 (by rw[List.length_map,List.length_range];lia) ⟨_,rfl⟩ ?_ ?_
   ·rintro m σ H5 Kt Kf hm ⟨x',rfl⟩ sm5 kt kf
    refine⟨_,rfl,_,rfl,by show 2≤sizeLine;decide,fun t ht=>?_⟩
    have st:=aE (o:=.tup [.int (i:Int),.int (m:Int)]) ht
    have hK5:=st _ _ (sm5 _ _ (s4 _ _ hKc))
    refine⟨_,rfl,Kn,_,rfl,DGet.t (k:=tk2 (ci i,ci m)) hK5 aB,_,rfl,?_⟩
    rw[known]
    refine ite2 (fun c=>?_) (fun c=>?_)
    ·exact⟨_,rfl,kt _ _ ⟨_,rfl⟩ st c⟩
    ·exact kf _ _ ⟨_,rfl⟩ st (by simpa using c)
   intro H5 s5 hD5
   rw[aDz Fi hi] at hD5
   have hR5:=s5 _ _ hR4
   have bl:bs.length=i:=hb.1
   have nDR:D3≠R:=by rintro rfl;rw[hR4] at hD3;cases hD3
   refine⟨R,_,_,rfl,rfl,hR5,by rw[List.length_map,bl];exact Nat.lt_of_lt_of_le (show i<33 by lia) (by decide),⟨_,_,rfl⟩,bE ((sc.trans s4).trans s5) hRH,?_,bs++[D3],by rw[aB,List.map_append];rfl,fun b hb'=>?_,?_⟩
   ·rw[aH nKR];exact s5 _ _ (s4 _ _ hKc)
   ·rcases List.mem_append.mp hb' with z|z
    ·exact fr b z
    ·rw[List.mem_singleton.mp z];exact⟨(sc.trans s4).free hD3,nDR⟩
   ·refine Holds.snoc (hb.mono fun j hj e=>?_) (by rw[aH nDR];exact hD5)
    have e5:=s5 _ _ (s4 _ _ e)
    have hm:bs.getD j 0∈bs:=by rw[List.getD_eq_getElem?_getD,List.getElem?_eq_getElem (by lia)];exact List.getElem_mem _
    rw[aH (fr _ hm).2];exact e5
  ·rintro σ Hc ⟨⟨x4,x5,rfl⟩,sc,hKc,bs,hRc,fr,hb⟩
   exact⟨_,rfl,q R Hc sc hRH ⟨bs,hRc,fun b hb'=>(fr b hb').1,hb⟩⟩
end
end K12
namespace K12
open PySem L2 NetM
abbrev uY:Stmt:=top 44
def oV:Option Nat→V
 |none=>.non
 |some y=>.int (y:Nat)
theorem aBz{y:Nat}:∀ {st:List (Option Nat)},(st.map oV).countP (fun z=>eqV z (.int (y:Int)))=st.count (some y)
 |[]=>rfl
 |o::st=>by
  rw[List.map_cons,List.countP_cons,aBz,List.count_cons]
  cases o with
  |none=>rfl
  |some x=>
   congr 1
   show (if decide ((x:Int)=(y:Int))=true then 1 else 0)=_
   by_cases h:x=y
   ·subst h;simp
   ·rw[if_neg (by simp;lia),if_neg (by simp[h])]
theorem iT:∀ {st:List (Option Nat)},(st.map oV).all cZ=true
 |[]=>rfl
 |none::st=>iT (st:=st)
 |some _::st=>iT (st:=st)
structure Stnd(n:Nat)(ts:Ts)(homes:List Nat)(st:List (Option Nat)):Prop where
 len:homes.length=st.length
 hs:∀x∈homes,x<n
 ss:∀i y:Nat,st[i]?=some (some y)→y<n∧homes[i]?≠some y
 cap:∀y,y<n→st.count (some y)≤(outN n ts y).length
theorem Stnd.snoc{n:Nat}{ts:Ts}{homes:List Nat}{st:List (Option Nat)}{h:Nat}{o:Option Nat}(S:Stnd n ts homes st)(hh:h<n)(ho:∀y,o=some y→y<n∧y≠h∧st.count (some y)<(outN n ts y).length):Stnd n ts (homes++[h]) (st++[o]):=by
 refine⟨by rw[List.length_append,List.length_append,S.len];rfl,fun x hx=>?_,fun i y e=>?_,fun y hy=>?_⟩
 ·rcases List.mem_append.mp hx with z|z
  ·exact S.hs x z
  ·rw[List.mem_singleton.mp z];exact hh
 ·by_cases c:i<st.length
  ·rw[List.getElem?_append_left c] at e
   rw[List.getElem?_append_left (by rw[S.len];exact c)]
   exact S.ss i y e
  ·rw[List.getElem?_append_right (by lia)] at e
   have hi:i=st.length:=by
    have:=(List.getElem?_eq_some_iff.mp e).1
    rw[List.length_singleton] at this;lia
   subst hi
   rw[Nat.sub_self] at e
   have:=ho y (Option.some.inj e)
   refine⟨this.1,?_⟩
   rw[← S.len,List.getElem?_append_right (Nat.le_refl _),Nat.sub_self]
   exact fun z=>this.2.1 (Option.some.inj z).symm
 ·rw[List.count_append,List.count_singleton]
  by_cases e:o=some y
  ·rw[if_pos (by rw[e];simp)];exact(ho y e).2.2
  ·rw[if_neg (by simpa using e)];exact S.cap y hy
section
variable {P:Program} {w:World} {K:PySem.W.Frag} {mg:Str→Option Value} {base:Heap}
theorem fE:aW ["_law_pot_here","_law_outs_here","_law_many","_law_crowd","_law_homes","_law_stand","_law_k","_law_house"] ["_law_pot_here","_law_outs_here"] (aL uY):=⟨rfl,rfl,rfl,by decide +kernel,rfl,by decide +kernel,by decide +kernel⟩
def pU:Sp:=fun vs H Q _=>∃ (p r:Addr) (n:Nat) (ts:Ts) (L:Addr→Prop),vs=[.ref p,.ref r]∧2≤n∧n≤32∧aY H p∧bL H L r n (outN n ts)∧L r∧¬ L p∧
 ∀ (t a b:Addr) (homes:List Nat) (st:List (Option Nat)) (H':Hp),aO p H H'→aY H' p→H' t=some (.tup [.ref a,.ref b])→H' a=some (.tup (NV homes))→H' b=some (.tup (st.map oV))→st.length≤16→Stnd n ts homes st→Q (.ref t) H'
theorem aCi{f:Addr}{fd:FuncData}(F:Fun K "_law_start" "_law_start" uY f fd)(B:Bl mg)(D:Cal P w K mg base CX0 1 "_law_take" ["_law_pot_here","_law_many"] eL):FnOk P w K mg base CX0 2 f fd ["_law_pot_here","_law_outs_here"] pU:=by
 refine F.ok fE (fun vs H Q E h=>?_) (fun cdv A outer s H vs Q E hr h=>?_)
 ·obtain⟨p,r,n,ts,L,rfl,_⟩:=h
  rfl
 ·obtain⟨p,r,n,ts,L,rfl,n1,n2,hp,R0,hLr,hLp,q⟩:=h
  refine⟨_,(aF (aT (i:=2) fE.nd rfl (Or.inl rfl) (aU bC (by rfl) B.len PySem.boot_len (aA (pv 1) aD)))
   (aF (aT (i:=3) fE.nd rfl (Or.inl rfl) (aS aP (bY (aA (pv 2) (aA (pv 2) (aA aJ (aA aJ aD))))) (aN D hr aQ (aA (pv 0) (aA aJ aD))) (fun _ _=>rfl)))
   (aF (rS (i:=4) (j:=5) rfl fE.nd rfl rfl (by decide) rfl rfl (aA (bY aD) (aA (bY aD) aD)) (by rfl))
   (aF (cH PassesOwn.never rfl (bT rfl B.range (aA (aN D hr aQ (aA (pv 0) (aA aJ aD))) aD)) (aK (i:=6) fE.nd rfl (Or.inl rfl))
    (aF (bV (dA PySem.F.plainAttrs_list PySem.F.slot_list_append PySem.F.type_list_append cE (pv 4) (aA (aN D hr aQ (aA (pv 0) (aA (pv 2) aD))) aD)))
    (aF (aT (i:=7) fE.nd rfl (Or.inl rfl) (aN D hr aQ (aA (pv 0) (aA (aU (kN rfl) (by rfl) B.min PyProof.Rows.boot_min (aA (pv 3) (aA (pv 2) aD))) aD))))
    (aF (bZ (PW.pt (xT (aX dX (aN D hr aQ (aA (pv 0) (aA aJ aD))) aJ (aZ _)) (xT (aX dX (pv 7) (aS aP (pv 4) (xX rX aJ) (fun _ _=>rfl)) (aZ _)) (aAg (aX aCp (dA PySem.F.plainAttrs_list PySem.F.slot_list_count PySem.F.type_list_count tE (pv 5) (aA (pv 7) aD)) (aU bC (by rfl) B.len PySem.boot_len (aA (aS aP (pv 1) (pv 7) (fun _ _=>rfl)) aD)) (aZ _)))))) (aI (aT (i:=7) fE.nd rfl (Or.inl rfl) (aV fK (aV cD (aV cD (pv 7) aJ) (aN D hr aQ (aA (pv 0) (aA (pv 2) aD)))) (pv 2)))) bS)
    (aF (bZ (PW.pt (xT (aX dX (pv 7) (aS aP (pv 4) (xX rX aJ) (fun _ _=>rfl)) (aZ _)) (aAg (aX aCp (dA PySem.F.plainAttrs_list PySem.F.slot_list_count PySem.F.type_list_count tE (pv 5) (aA (pv 7) aD)) (aU bC (by rfl) B.len PySem.boot_len (aA (aS aP (pv 1) (pv 7) (fun _ _=>rfl)) aD)) (aZ _))))) (aI (aT (i:=7) fE.nd rfl (Or.inl rfl) eI)) bS)
    (aI (bV (dA PySem.F.plainAttrs_list PySem.F.slot_list_append PySem.F.type_list_append cE (pv 5) (aA (pv 7) aD)))))))))
   (aI (bA (bW (aA (cJ eT (by rfl) B.tup PyProof.Rows.boot_tuple (aA (pv 4) aD)) (aA (cJ eT (by rfl) B.tup PyProof.Rows.boot_tuple (aA (pv 5) aD)) aD))))))))),?_⟩
  obtain⟨bs0,g1,g2,g3⟩:=id R0
  have el:(((bs0.map V.ref).length:Nat):Int)=(n:Int):=by rw[List.length_map,g3.1]
  refine⟨_,rfl,r,_,rfl,.inl (SqL.of g1),?_⟩
  rw[el]
  refine⟨_,rfl,_,rfl,by show 4≤sizeLine;decide,fun l hl=>⟨_,rfl,p,4,rfl,by decide,by decide,hp.same (aE hl),fun d1 H1 hd1 s1 hp1=>?_⟩⟩
  have gl:=s1 _ _ (aB (H:=H) (a:=l) (o:=.lst [.int (n:Int),.int (n:Int),.int 2,.int 1])) (hp.ne hl)
  obtain⟨c,hc,c1,c2⟩:∃c:Nat,atI [V.int (n:Int),.int (n:Int),.int 2,.int 1] (d1:Int)=some (.int c)∧1≤c∧c≤32:=by
   rcases(show d1=0∨d1=1∨d1=2∨d1=3 by lia) with rfl|rfl|rfl|rfl
   ·exact⟨n,aM (j:=0) rfl,by lia,by lia⟩
   ·exact⟨n,aM (j:=1) rfl,by lia,by lia⟩
   ·exact⟨2,aM (j:=2) rfl,by decide,by decide⟩
   ·exact⟨1,aM (j:=3) rfl,by decide,by decide⟩
  have sH1:aO p H H1:=(aO.of (aE hl)).trans s1
  refine⟨l,_,_,_,rfl,rfl,SqL.of gl,hc,by show 0≤sizeLine;decide,fun Hs hHs=>⟨by show 0≤sizeLine;decide,fun St hSt=>⟨_,_,rfl,?_⟩⟩⟩
  have sA:=aE (o:=.lst []) hHs
  have sB:=aE (o:=.lst []) hSt
  have gH:=sB _ _ (aB (H:=H1) (a:=Hs) (o:=.lst (NV [])))
  have gS:(upd (upd H1 Hs (.lst [])) St (.lst [])) St=some (.lst (List.map oV [])):=aB
  have fH:H Hs=none:=sH1.free hp1.full hHs
  have fS:H St=none:=sH1.free hp1.full (sA.free hSt)
  have nHp:Hs≠p:=hp.ne fH
  have nSp:St≠p:=hp.ne fS
  have nHS:Hs≠St:=aG aB hSt
  have sAB:=sA.trans sB
  generalize upd (upd H1 Hs _) St _=H2 at *
  refine⟨_,rfl,p,17,rfl,by decide,by decide,hp1.same sAB,fun d2 H3 hd2 s3 hp3=>⟨(d2:Int),rfl,by lia,by lia,?_⟩⟩
  rw[Int.toNat_natCast]
  refine cR (lo:=0) (n:=d2) (fun i σ Hc=>∃ (homes:List Nat) (st:List (Option Nat)),(∃a b,σ=[some (.ref p),some (.ref r),some (.int (n:Int)),some (.int (c:Int)),some (.ref Hs),some (.ref St),a,b])∧aO p H Hc∧aY Hc p∧Hc Hs=some (.lst (NV homes))∧Hc St=some (.lst (st.map oV))∧st.length=i∧Stnd n ts homes st)
   ⟨[],[],⟨_,_,rfl⟩,(sH1.trans (aO.of sAB)).trans s3,hp3,s3 _ _ gH nHp,s3 _ _ gS nSp,rfl,rfl,fun x hx=>(nomatch hx),fun i y e=>by simp at e,fun y _=>Nat.zero_le _⟩ ?_ ?_
  ·clear gH gS s3 hp3 sAB sA sB gl sH1 s1 hp1
   rintro i σ Hc hi ⟨homes,st,⟨x6,x7,rfl⟩,sc,hpc,hHc,hSc,sl,SD⟩
   refine⟨_,rfl,.inl ⟨rfl,_,SqL.of hHc⟩,_,rfl,_,rfl,p,n,rfl,by lia,by lia,hpc,fun home H4 hh s4 hp4=>⟨Hs,_,_,rfl,rfl,s4 _ _ hHc nHp,by rw[bD,SD.len,sl];exact Nat.lt_of_lt_of_le (show i<33 by lia) (by decide),?_⟩⟩
   rw[eO]
   have sH5:aO p H (upd H4 Hs (.lst (NV (homes++[home])))):=fun b o e m=>by rw[aH (aG e fH)];exact s4 _ _ (sc _ _ e m) m
   have hp5:=hp4.put (o:=.lst (NV (homes++[home]))) nHp.symm
   have hS5:(upd H4 Hs (.lst (NV (homes++[home])))) St=some (.lst (st.map oV)):=by rw[aH nHS.symm];exact s4 _ _ hSc nSp
   have hH5:=aB (H:=H4) (a:=Hs) (o:=.lst (NV (homes++[home])))
   generalize upd H4 Hs _=H5 at *
   clear s4 hp4 hHc hSc hpc sc
   have em:(if (n:Int)<(c:Int) then (n:Int) else (c:Int))=((min c n:Nat):Int):=by split <;> lia
   refine⟨_,rfl,_,rfl,_,rfl,_,_,rfl,p,min c n,by rw[em];rfl,by lia,by lia,hp5,fun y0 H6 hy0 s6 hp6=>?_⟩
   have hgl:atI (NV (homes++[home])) (-1)=some (.int (home:Int)):=by rw[← eO];exact sD _ _
   dsimp only
   refine kB (fun σ Hd=>∃y:Nat,y<n∧σ=[some (.ref p),some (.ref r),some (.int (n:Int)),some (.int (c:Int)),some (.ref Hs),some (.ref St),some (.int (0+(i:Int))),some (.int (y:Int))]∧aO p H Hd∧aY Hd p∧Hd Hs=some (.lst (NV (homes++[home])))∧Hd St=some (.lst (st.map oV))) ?_ ?_
   ·rintro σ Hd ⟨y,hy,rfl,sd,hpd,hH,hS⟩
    refine kB (fun σ He=>He=Hd∧∃o:Option Nat,σ=[some (.ref p),some (.ref r),some (.int (n:Int)),some (.int (c:Int)),some (.ref Hs),some (.ref St),some (.int (0+(i:Int))),some (oV o)]∧∀y,o=some y→y<n∧y≠home∧st.count (some y)<(outN n ts y).length) ?_ ?_
    ·rintro σ He ⟨rfl,o,rfl,ho⟩
     refine⟨_,rfl,.inl ⟨rfl,_,SqL.of hS⟩,_,rfl,St,_,_,rfl,rfl,hS,by rw[List.length_map,sl];exact Nat.lt_of_lt_of_le (show i<33 by lia) (by decide),?_⟩
     exact⟨homes++[home],st++[o],⟨_,_,rfl⟩,fun b o' e m=>by rw[aH (aG e fS)];exact sd _ _ e m,hpd.put nSp.symm,by rw[aH nHS];exact hH,by rw[aB,List.map_append];rfl,by rw[List.length_append,sl];rfl,SD.snoc hh ho⟩
    ·intro N hN
     have Rd:=R0.keep hLr fun b o l e=>sd b o e fun z=>hLp (z ▸ l)
     obtain⟨bs,b1,b2,b3⟩:=Rd
     have no:N _ Hd:=hN _ _ ⟨rfl,none,rfl,fun y e=>by cases e⟩
     refine⟨_,rfl,_,rfl,_,rfl,Hs,_,_,_,rfl,rfl,SqL.of hH,hgl,rfl,_,rfl,ite2 (fun e1=>iteT ?_) (fun e1=>?_)⟩
     ·exact no
     refine⟨_,rfl,.inl ⟨rfl,_,SqL.of hS⟩,_,rfl,St,_,_,rfl,rfl,hS,rfl,iT,_,rfl,_,rfl,r,_,_,_,rfl,rfl,SqL.of b1,aM (zV (by rw[b3.1];exact hy)),_,_,rfl,.inl (SqL.of (b3.2 y hy)),_,_,rfl,rfl,_,rfl,?_⟩
     refine ite2 (fun e2=>no) (fun e2=>hN _ _ ⟨rfl,some y,rfl,fun y' e=>?_⟩)
     cases e
     refine⟨hy,fun z=>e1 (by rw[z];simp),?_⟩
     have e2:=mt decide_eq_true e2
     rw[aBz,bD] at e2
     lia
   ·intro N hN
    have sH6:=sH5.trans s6
    have hH:=s6 _ _ hH5 nHp
    have hS:=s6 _ _ hS5 nSp
    have hy:y0<n:=by lia
    have Rd:∀ {Hd},aO p H Hd→bL Hd L r n (outN n ts):=fun sd=>R0.keep hLr fun b o l e=>sd b o e fun z=>hLp (z ▸ l)
    refine if_k (fun Hd=>aO p H Hd∧aY Hd p∧Hd Hs=some (.lst (NV (homes++[home])))∧Hd St=some (.lst (st.map oV))) (fun Hd=>aO p H Hd∧aY Hd p∧Hd Hs=some (.lst (NV (homes++[home])))∧Hd St=some (.lst (st.map oV))) ?_ (fun Hd ⟨a1,a2,a3,a4⟩=>hN _ _ ⟨y0,hy,rfl,a1,a2,a3,a4⟩) ?_
    ·rintro Hd ⟨sd,hpd,hHd,hSd⟩
     refine⟨_,rfl,_,_,rfl,rfl,_,rfl,_,rfl,p,n,rfl,by lia,by lia,hpd,fun d3 H7 hd3 s7 hp7=>⟨_,_,rfl,rfl,_,rfl,_,_,rfl,rfl,(by show (0:Int)<(n:Int);lia),?_⟩⟩
     have ey:((y0:Int)+1+(d3:Int)) % (n:Int)=(((y0+1+d3) % n:Nat):Int):=by simp
     change bB 7 (V.int (((y0:Int)+1+(d3:Int)) % (n:Int))) _ _ _
     rw[ey]
     exact hN _ _ ⟨_,Nat.mod_lt _ (by lia),rfl,sd.trans s7,hp7,s7 _ _ hHd nHp,s7 _ _ hSd nSp⟩
    ·intro Y N' hY hN'
     refine⟨_,rfl,p,7,rfl,by decide,by decide,hp6,fun d3 H7 hd3 s7 hp7=>⟨rfl,_,rfl,?_⟩⟩
     have k7:=sH6.trans s7
     have hS:=s7 _ _ hS nSp
     have hH:=s7 _ _ hH nHp
     refine ite2 (fun e0=>iteT (hY _ ⟨k7,hp7,hH,hS⟩)) (fun e0=>?_)
     refine⟨_,rfl,_,rfl,_,rfl,Hs,_,_,_,rfl,rfl,SqL.of hH,hgl,rfl,_,rfl,ite2 (fun e1=>iteT (hY _ ⟨k7,hp7,hH,hS⟩)) (fun e1=>?_)⟩
     obtain⟨bs,b1,b2,b3⟩:=Rd k7
     refine⟨_,rfl,.inl ⟨rfl,_,SqL.of hS⟩,_,rfl,St,_,_,rfl,rfl,hS,rfl,iT,_,rfl,_,rfl,r,_,_,_,rfl,rfl,SqL.of b1,aM (zV (by rw[b3.1];exact hy)),_,_,rfl,.inl (SqL.of (b3.2 y0 hy)),_,_,rfl,rfl,_,rfl,?_⟩
     exact ite2 (fun e2=>hY _ ⟨k7,hp7,hH,hS⟩) (fun e2=>hN' _ ⟨k7,hp7,hH,hS⟩)
  ·rintro σ Hc ⟨homes,st,⟨x6,x7,rfl⟩,sc,hpc,hHc,hSc,sl,SD⟩
   refine⟨_,rfl,Hs,_,rfl,.inl ⟨SqL.of hHc,fun ta hta=>⟨_,rfl,St,_,rfl,.inl ⟨SqL.of (aE hta _ _ hSc),fun tb htb=>⟨by show 2≤sizeLine;decide,fun t ht=>?_⟩⟩⟩⟩⟩
   have u1:=aE (o:=.tup (NV homes)) hta
   have u2:=aE (o:=.tup (st.map oV)) htb
   have u3:=aE (o:=.tup [.ref ta,.ref tb]) ht
   exact q t ta tb homes st _ (sc.trans (aO.of ((u1.trans u2).trans u3))) (((hpc.same u1).same u2).same u3) aB (u3 _ _ (u2 _ _ aB)) (u3 _ _ aB) (by lia) SD
end
end K12
namespace K12
open PySem L2 NetM
abbrev sUW:Stmt:=top 12
abbrev zY:Stmt:=iH (top 14) 1
abbrev sFF:Stmt:=top 20
abbrev sHT:Stmt:=top 19
abbrev zZ:Stmt:=top 17
theorem iZ:(["letter","house"]:List Str).Nodup:=by decide +kernel
theorem hU:(["ahead","goes","stand","letter"]:List Str).Nodup:=by decide +kernel
theorem aDA:(["home"]:List Str).Nodup:=by decide +kernel
noncomputable def iD(n:Nat)(ts:Ts)(i j:Nat):List Nat:=(outN n ts i).filter fun o=>decide (far ts o j<far ts i j)
theorem nbG:(["other","self","home","own"]:List Str).Nodup:=by decide +kernel
def unw(st:List (Option Nat))(i:Nat):List Nat:=(List.range i).filter fun j=>(st.getD j none).isSome
theorem kG{st:List (Option Nat)}{i:Nat}:unw st (i+1)=unw st i++if (st.getD i none).isSome then [i] else []:=by
 unfold unw
 rw[List.range_succ,List.filter_append,List.filter_cons]
 rfl
theorem pV{st:List (Option Nat)}{i:Nat}:(unw st i).length≤i:=Nat.le_trans (List.length_filter_le _ _) (by rw[List.length_range];exact Nat.le_refl _)
def aCC:R2:=fun x y H Q=>y=.non∧Q (.bl (!decide (x=.non))) H
theorem uZ{st:List (Option Nat)}{i:Nat}{x:V}(h:(st.map oV)[i]?=some x):i<st.length∧x=oV (st.getD i none):=by
 have hi:=(List.getElem?_eq_some_iff.mp h).1
 rw[List.length_map] at hi
 refine⟨hi,?_⟩
 rw[List.getElem?_map,List.getElem?_eq_getElem hi] at h
 rw[List.getD_eq_getElem?_getD,List.getElem?_eq_getElem hi]
 exact(Option.some.inj h).symm
theorem xR{o:Option Nat}:(!decide (oV o=.non))=o.isSome:=by cases o <;> simp[oV]
theorem xS{st:List (Option Nat)}{i j:Nat}(h:j∈unw st i):j<i∧st.getD j none=some ((st.getD j none).getD 0):=by
 obtain⟨a,b⟩:=List.mem_filter.mp h
 refine⟨List.mem_range.mp a,?_⟩
 cases e:st.getD j none with
 |none=>rw[e] at b;cases b
 |some y=>rfl
def ffN(st gs:List (Option Nat))(l:Nat)(os:List Nat):Option Nat:=os.find? fun h=>!((List.range st.length).any fun a=>decide (st.getD a none=st.getD l none)&&decide (gs.getD a none=some h))
noncomputable def stT(n:Nat)(ts:Ts)(homes:List Nat)(st gs:List (Option Nat))(l:Nat):List (Option Nat):=gs.set l (ffN st gs l (iD n ts ((st.getD l none).getD 0) (homes.getD l 0)++outN n ts ((st.getD l none).getD 0)))
noncomputable def rP(n:Nat)(ts:Ts)(homes:List Nat)(st:List (Option Nat)):List (Option Nat):=(unw st st.length).foldl (stT n ts homes st) (List.replicate st.length none)
theorem oR{st:List (Option Nat)}{i:Nat}(h:i<st.length):(st.map oV)[i]?=some (oV (st.getD i none)):=by
 rw[List.getElem?_map,List.getD_eq_getElem?_getD,List.getElem?_eq_getElem h];rfl
theorem aE6{a b:Option Nat}:decide (oV a=oV b)=decide (a=b):=by
 cases a <;> cases b <;> simp[oV]
 exact⟨fun h=>Int.ofNat.inj h,fun h=>by rw[h]⟩
theorem aDB{a b:Option Nat}:scal (oV a) (oV b)=true:=by cases a <;> cases b <;> rfl
theorem aCD{h:Nat}:∀ {xs:List (Option Nat)},inV (.int (h:Int)) (xs.map oV)=xs.any fun o=>decide (o=some h)
 |[]=>rfl
 |o::xs=>by
  have ih:=aCD (h:=h) (xs:=xs)
  unfold inV at *
  rw[List.map_cons,List.any_cons,List.any_cons,ih]
  cases o with
  |none=>rfl
  |some x=>
   congr 1
   show decide ((x:Int)=(h:Int))=_
   by_cases e:x=h
   ·subst e;simp
   ·rw[decide_eq_false (by lia),decide_eq_false (by simp[e])]
theorem cA.own{C:Addr}{H:Hp}{L:Addr→Prop}{p:Addr}{n:Nat}{ts:Ts}(N:cA C H L p n ts):cA C H (fun b=>H b≠none) p n ts:=by
 obtain⟨dx,tl,ol,ds,a,l1,l2,b,c,d⟩:=N.ob
 have ne:∀ {b o},H b=some o→H b≠none:=fun e z=>by rw[e] at z;cases z
 have rw':∀ {l r},bL H L l n r→bL H (fun b=>H b≠none) l n r∧H l≠none:=fun ⟨bs,a,b,c⟩=>⟨⟨bs,a,fun x hx=>by
  obtain⟨j,hj,e⟩:=List.getElem_of_mem hx
  have:=c.2 j (by rw[← c.1];exact hj)
  rw[List.getD_eq_getElem?_getD,List.getElem?_eq_getElem hj,Option.getD_some,e] at this
  exact ne this,c⟩,ne a⟩
 obtain⟨t1,zs,t2,t3,t4,t5⟩:=d
 exact⟨N.fine,dx,tl,ol,ds,a,(rw' b).2,(rw' c).2,(rw' b).1,(rw' c).1,ne t2,zs,t2,t3,fun z hz=>ne (t3 z hz),t5⟩
section
variable {P:Program} {w:World} {K:PySem.W.Frag} {mg:Str→Option Value} {base:Heap}
theorem aBA:aW ["self","house","home","own"] ["self","house","home"] (aL zD):=⟨rfl,rfl,rfl,by decide +kernel,rfl,by decide +kernel,by decide +kernel⟩
def pW(C:Addr):Sp:=fun vs H Q _=>∃ (L:Addr→Prop) (p:Addr) (n:Nat) (ts:Ts) (i j:Nat),vs=[.ref p,.int i,.int j]∧cA C H L p n ts∧i<n∧j<n∧∀r H',Same H H'→H r=none→H' r=some (.lst (NV (iD n ts i j)))→Q (.ref r) H'
theorem aCj{f C:Addr}{fd:FuncData}(F:Fun K "good" "Net.good" zD f fd)(T:NT K mg C)(M:MCal P w K mg base CX0 5 C "far" ["self","one","other"] (uD C)):
  FnOk P w K mg base CX0 6 f fd ["self","house","home"] (pW C):=by
 obtain⟨fM,fdM,mM,bM,GM⟩:=M.ex
 refine F.ok aBA (fun vs H Q E h=>?_) (fun cdv A outer s H vs Q E hr h=>?_)
 ·obtain⟨L,p,n,ts,i,j,rfl,_⟩:=h
  rfl
 ·obtain⟨L,p,n,ts,i,j,rfl,N,hi,hj,k2⟩:=h
  obtain⟨dx,tl,ol,ds,h1,_,_,RO,R,_⟩:=N.ob
  have fi:=N.fine
  have n2:=fi.n2
  refine'⟨_,aF (aT (i:=3) aBA.nd rfl (Or.inr rfl) (fW (pv 0) T.cl mM GM hr bM .nil aQ (aA (pv 1) (aA (pv 2) aD))))
   (aI (bA ?c)),?_⟩
  case c=>
   refine' cG (g:=bB 0) (tt:=hW (tOp (rI0 fun i j=>.bl (decide (i<j))) (tOp (rIxL K) (tOp (rIxL K) (tFld K (tVar 1) "distances") (tVar 0)) (tVar 2)) (tVar 3))) (te:=tVar 0) (NB:=["other","self","home","own"]) (src:=[none,some 0,some 2,some 3]) (bP (by kernel_rfl)) rfl (bN (aS aP (iL (pv 0) rfl) (pv 1) (fun _ _=>rfl))) ?g ?t ?e
   case g=>exact fun cl C s₃ H₃ fp=>aK (i:=0) nbG rfl (Or.inl rfl) (Or.inr rfl)
   case t=>exact fun cl C s₃ H₃ fp=>dF (aX gJ (aS aP (aS aP (iL (pv 1) rfl) (pv 0) (fun _ _=>rfl)) (pv 2) (fun _ _=>rfl)) (pv 3) (aZ _))
   case e=>exact fun cl C s₃ H₃ fp=>pv 0
  refine⟨_,rfl,p,dx,_,rfl,h1,nfar _ _ _ _,_,rfl,_,rfl,L,p,n,ts,i,j,rfl,N,hi,hj,?_⟩
  obtain⟨bs,b,r1,r2,r3,_⟩:=RO.row hi
  refine⟨_,rfl,p,C,dx,_,_,rfl,h1,T.cl,T.nO,xI _ _ _ _,_,rfl,ol,_,_,_,rfl,rfl,SqL.of r1,aM r2,b,rfl,⟨_,SqL.of r3⟩,fun D hD=>?_⟩
  have nb:b≠D:=aG r3 hD
  refine dI (xs:=NV (outN n ts i)) (fun m ys σ H2=>(∃a,σ=[a,some (.ref p),some (.int (j:Int)),some (.int ((far ts i j:Nat):Int))])∧ys=NV (((outN n ts i).take m).filter fun o=>decide (far ts o j<far ts i j))∧H2=upd H D (.lst ys)) ⟨⟨_,rfl⟩,by simp,rfl⟩ (fun m ys σ H2 _ ⟨_,_,e⟩=>by rw[e];exact SqL.of (by rw[aH nb];exact r3)) ?_ ?_
  ·rintro m x ys σ H2 Kt Kf hx ⟨⟨a,rfl⟩,ey,rfl⟩ kt kf
   obtain⟨v,hv,rfl⟩:=kD hx
   have hvm:v∈outN n ts i:=List.mem_of_getElem? hv
   have hvn:v<n:=lX fi hi hvm
   have sm:Same H (upd H D (.lst ys)):=aE hD
   obtain⟨bs2,b2,q1,q2,q3,_⟩:=R.row hvn
   have hg:(NV ((List.range n).map (far ts v)))[j]?=some (.int (far ts v j:Nat)):=by
    rw[List.getElem?_map,List.getElem?_map,List.getElem?_range hj];rfl
   have tk:(outN n ts i).take (m+1)=(outN n ts i).take m++[v]:=by rw[List.take_add_one,hv];rfl
   have hm:m<(outN n ts i).length:=(List.getElem?_eq_some_iff.mp hv).1
   refine⟨_,rfl,p,C,dx,_,_,rfl,sm _ _ h1,T.cl,T.nD,xJ _ _ _ _,_,rfl,ds,_,_,_,rfl,rfl,SqL.of (sm _ _ q1),aM q2,_,rfl,b2,_,_,_,rfl,rfl,SqL.of (sm _ _ q3),aM hg,_,rfl,_,_,rfl,rfl,_,rfl,?_⟩
   refine ite2 (fun e=>?_) (fun e=>?_)
   ·refine⟨_,rfl,kt _ _ _ aB ?_ ⟨⟨_,rfl⟩,?_,by rw[iE]⟩⟩
    ·rw[ey,bD]
     refine Nat.lt_of_le_of_lt (List.length_filter_le _ _) (Nat.lt_of_le_of_lt (List.length_take_le _ _) (Nat.lt_of_lt_of_le (show m<33 from ?_) (by decide)))
     have:(outN n ts i).length≤n:=Nat.le_trans (List.length_filter_le _ _) (by simp)
     lia
    ·have:decide (far ts v j<far ts i j)=true:=by simp at e ⊢;lia
     rw[ey,tk,List.filter_append,eO]
     simp[List.filter_cons,this]
   ·refine kf _ _ ⟨⟨_,rfl⟩,?_,rfl⟩
    have:decide (far ts v j<far ts i j)=false:=by simp at e ⊢;lia
    rw[ey,tk,List.filter_append]
    simp[List.filter_cons,this]
  ·rintro ys σ H2 ⟨_,ey,rfl⟩
   rw[bD,List.take_length] at ey
   refine k2 D _ (aE hD) hD ?_
   rw[aB,ey]
   rfl
theorem scUW:aW ["stand"] ["stand"] (aL sUW):=⟨rfl,rfl,rfl,by decide +kernel,rfl,by decide +kernel,by decide +kernel⟩
def spUW:Sp:=fun vs H Q _=>∃ (sa:Addr) (st:List (Option Nat)),vs=[.ref sa]∧H sa=some (.tup (st.map oV))∧st.length≤16∧∀ (r:Addr) (H':Hp),Same H H'→H' r=some (.lst (NV (unw st st.length)))→Q (.ref r) H'
theorem aE7{f:Addr}{fd:FuncData}(F:Fun K "under_way" "under_way" sUW f fd)(hE:mg "enumerate"=none):FnOk P w K mg base CX0 1 f fd ["stand"] spUW:=by
 refine F.ok scUW (fun vs H Q E h=>?_) (fun cdv A outer s H vs Q E hr h=>?_)
 ·obtain⟨sa,st,rfl,_⟩:=h
  rfl
 ·obtain⟨sa,st,rfl,hS,hl,q⟩:=h
  refine'⟨_,(aI (bA ?c1)),?_⟩
  case c1=>
   refine' cG (g:=(gTup K 2 (cY (bB 0) (cY (bB 1) gNil)))) (tt:=(hW (tOp aCC (tVar 1) (tC .non)))) (te:=(tVar 0)) (NB:=["letter","house"]) (src:=[none,none]) (bP (by kernel_rfl)) rfl (tG rfl hE (aA (pv 0) aD)) ?g ?t ?e
   case g=>exact fun cl C s₃ H₃ fp=>(cM (n:=2) rfl (aR (aK (i:=0) iZ rfl (Or.inl rfl) (Or.inr rfl)) (aR (aK (i:=1) iZ rfl (Or.inl rfl) (Or.inr rfl)) cF)))
   case t=>exact fun cl C s₃ H₃ fp=>dF (aX wF (pv 1) eI (aZ _))
   case e=>exact fun cl C s₃ H₃ fp=>(pv 0)
  refine⟨_,rfl,sa,_,rfl,SqT.of hS,fun D hD=>?_⟩
  refine nZ (K:=K) (a:=sa) (xs:=st.map oV) (fun i ys σ H3=>(∃u v,σ=[u,v])∧ys=NV (unw st i)∧Same H H3∧H3 D=some (.lst ys)) ⟨⟨_,_,rfl⟩,rfl,aE hD,aB⟩ (fun i ys σ H3 _ z=>SqT.of (z.2.2.1 _ _ hS)) ?_ ?_
  ·rintro i x t ys σ H3 Kt Kf hx ⟨⟨u,v,rfl⟩,rfl,sm,hD3⟩ ht kt kf
   obtain⟨hi,rfl⟩:=uZ hx
   have st':=aE (o:=.tup [.int (i:Int),oV (st.getD i none)]) ht
   refine⟨_,_,rfl,SqT.of aB,rfl,_,_,rfl,_,_,rfl,rfl,?_⟩
   refine⟨_,rfl,rfl,_,rfl,?_⟩
   rw[xR]
   refine ite2 (fun e=>?_) (fun e=>?_)
   ·refine⟨_,rfl,kt _ _ _ (st' _ _ hD3) (by rw[bD];exact Nat.lt_of_le_of_lt pV (Nat.lt_of_lt_of_le (show i<17 by lia) (by decide))) ⟨⟨_,_,rfl⟩,?_,bE (sm.trans st') hD,aB⟩⟩
    rw[kG,if_pos e,eO]
   ·refine kf _ _ ⟨⟨_,_,rfl⟩,?_,sm.trans st',st' _ _ hD3⟩
    rw[kG,if_neg e,List.append_nil]
  ·rintro ys σ H3 ⟨_,rfl,sm,hD3⟩
   rw[List.length_map] at hD3
   exact q D H3 sm hD3
theorem aEt:aW ["self","net","homes","stand","beat"] ["self","net","homes","stand","beat"] (aL zY):=⟨rfl,rfl,rfl,by decide +kernel,rfl,by decide +kernel,by decide +kernel⟩
def aBB:Sp:=fun vs H Q _=>∃ (x0 x1 x2 x4:V) (sa:Addr) (st:List (Option Nat)),vs=[x0,x1,x2,.ref sa,x4]∧H sa=some (.tup (st.map oV))∧st.length≤16∧∀ (r:Addr) (H':Hp),Same H H'→H' r=some (.lst (NV (unw st st.length)))→Q (.ref r) H'
theorem aDC{f:Addr}{fd:FuncData}(F:Fun K "order" "Rule.order" zY f fd)(UW:Cal P w K mg base CX0 1 "under_way" ["stand"] spUW):FnOk P w K mg base CX0 2 f fd ["self","net","homes","stand","beat"] aBB:=by
 refine F.ok aEt (fun vs H Q E h=>?_) (fun cdv A outer s H vs Q E hr h=>?_)
 ·obtain⟨x0,x1,x2,x4,sa,st,rfl,_⟩:=h
  rfl
 ·obtain⟨x0,x1,x2,x4,sa,st,rfl,hS,hl,q⟩:=h
  refine⟨_,(aI (bA (aN UW hr aQ (aA (pv 3) aD)))),?_⟩
  exact⟨_,rfl,sa,st,rfl,hS,hl,q⟩
theorem scFF:aW ["others","stand","goes","letter","taken","house"] ["others","stand","goes","letter"] (aL sFF):=⟨rfl,rfl,rfl,by decide +kernel,rfl,by decide +kernel,by decide +kernel⟩
def spFF:Sp:=fun vs H Q _=>∃ (oa sa ga:Addr) (os:List Nat) (st gs:List (Option Nat)) (l:Nat),vs=[.ref oa,.ref sa,.ref ga,.int l]∧H oa=some (.lst (NV os))∧H sa=some (.tup (st.map oV))∧H ga=some (.lst (gs.map oV))∧gs.length=st.length∧st.length≤16∧l<st.length∧∀H',Same H H'→Q (oV (ffN st gs l os)) H'
theorem aE8{f:Addr}{fd:FuncData}(F:Fun K "first_free" "first_free" sFF f fd)(B:Bl mg):FnOk P w K mg base CX0 1 f fd ["others","stand","goes","letter"] spFF:=by
 refine F.ok scFF (fun vs H Q E h=>?_) (fun cdv A outer s H vs Q E hr h=>?_)
 ·obtain⟨oa,sa,ga,os,st,gs,l,rfl,_⟩:=h
  rfl
 ·obtain⟨oa,sa,ga,os,st,gs,l,rfl,hO,hS,hG,gl,sl,hl,q⟩:=h
  refine'⟨_,(aF (dB (i:=4) (g:=(bB 0)) (tt:=(hW (tOp (rEq) (tOp (rIxT K) (tVar 2) (tVar 0)) (tOp (rIxT K) (tVar 2) (tVar 3))))) (te:=(tOp (rIxL K) (tVar 1) (tVar 0))) (NB:=["ahead","goes","stand","letter"]) (src:=[none,some 2,some 1,some 3]) (bP (by kernel_rfl)) rfl (bT rfl B.range (aA (aU bC (by rfl) B.len PySem.boot_len (aA (pv 1) aD)) aD)) ?g1 ?t1 ?e1 scFF.nd rfl rfl rfl)
   (aF (cH PassesOwn.never rfl (bN (pv 0)) (aK (i:=5) scFF.nd rfl (Or.inl rfl))
    (aI (bZ (aX sI (pv 5) (pv 4) rfl) (aI (bA (pv 5))) bS)))
   (aI (bA eI)))),?_⟩
  case g1=>exact fun cl C s₃ H₃ fp=>(aK (i:=0) hU rfl (Or.inl rfl) (Or.inr rfl))
  case t1=>exact fun cl C s₃ H₃ fp=>dF (aX dX (aS eJ (pv 2) (pv 0) (fun _ _=>rfl)) (aS eJ (pv 2) (pv 3) (fun _ _=>rfl)) (aZ _))
  case e1=>exact fun cl C s₃ H₃ fp=>(aS aP (pv 1) (pv 0) (fun _ _=>rfl))
  refine⟨_,rfl,sa,_,rfl,.inr (SqT.of hS),(((st.map oV).length:Nat):Int),rfl,by lia,by rw[List.length_map];lia,fun D hD=>?_⟩
  rw[Int.toNat_natCast,List.length_map]
  refine dZ (fun i ys σ H2=>(∃x,σ=[x,some (.ref ga),some (.ref sa),some (.int (l:Int))])∧Same H H2∧H2 D=some (.lst ys)∧ys=(((List.range i).filter fun a=>decide (st.getD a none=st.getD l none)).map fun a=>gs.getD a none).map oV) ⟨⟨_,rfl⟩,aE hD,aB,rfl⟩ ?_ ?_
  ·rintro i ys σ H2 Kt Kf hi ⟨⟨x,rfl⟩,sm,hD2,rfl⟩ kt kf
   rw[Int.zero_add]
   refine⟨_,rfl,_,rfl,sa,_,_,_,rfl,rfl,SqT.of (sm _ _ hS),aM (oR hi),_,rfl,_,rfl,sa,_,_,_,rfl,rfl,SqT.of (sm _ _ hS),aM (oR hl),aDB,_,rfl,?_⟩
   rw[aE6]
   refine ite2 (fun c=>?_) (fun c=>?_)
   ·refine⟨_,rfl,_,rfl,ga,_,_,_,rfl,rfl,SqL.of (sm _ _ hG),aM (oR (by lia)),?_⟩
    refine kt _ _ _ hD2 ?_ ⟨⟨_,rfl⟩,bE sm hD,aB,?_⟩
    ·rw[List.length_map,List.length_map]
     refine Nat.lt_of_le_of_lt (List.length_filter_le _ _) ?_
     rw[List.length_range]
     exact Nat.lt_of_lt_of_le (show i<17 by lia) (by decide)
    ·rw[List.range_succ,List.filter_append,List.map_append,List.map_append,List.filter_cons,if_pos c];rfl
   ·refine kf _ _ ⟨⟨_,rfl⟩,sm,hD2,?_⟩
    rw[List.range_succ,List.filter_append,List.filter_cons,if_neg c,List.filter_nil,List.append_nil]
  rintro ys σ H2 ⟨_,sm,hD2,rfl⟩
  have ein:∀h:Nat,inV (.int (h:Int)) ((((List.range st.length).filter fun a=>decide (st.getD a none=st.getD l none)).map fun a=>gs.getD a none).map oV)=(List.range st.length).any fun a=>decide (st.getD a none=st.getD l none)&&decide (gs.getD a none=some h):=fun h=>by
   rw[aCD,List.any_map,List.any_filter];rfl
  generalize hw:(((List.range st.length).filter fun a=>decide (st.getD a none=st.getD l none)).map fun a=>gs.getD a none)=ws at *
  refine⟨_,rfl,oa,rfl,⟨_,SqL.of (sm _ _ hO)⟩,dN (K:=K) (xs:=NV os) (fun j σ H3=>(∃x,σ=[some (.ref oa),some (.ref sa),some (.ref ga),some (.int (l:Int)),some (.ref D),x])∧H3=H2∧ffN st gs l os=ffN st gs l (os.drop j)) ⟨⟨_,rfl⟩,rfl,rfl⟩ (fun j σ H3 _ z=>by rw[z.2.1];exact SqL.of (sm _ _ hO)) ?_ ?_⟩
  ·rintro j x σ H3 hx ⟨⟨x5,rfl⟩,rfl,ef⟩
   obtain⟨h,hv,rfl⟩:=kD hx
   have hj:j<os.length:=(List.getElem?_eq_some_iff.mp hv).1
   have ed:os.drop j=h::os.drop (j+1):=by
    rw[List.drop_eq_getElem_cons hj]
    congr 1
    exact(List.getElem?_eq_some_iff.mp hv).2
   refine⟨_,rfl,_,rfl,D,_,rfl,.inl (SqL.of hD2),rfl,iT,_,rfl,?_⟩
   have ef2:ffN st gs l (h::os.drop (j+1))=if (!inV (.int (h:Int)) (ws.map oV))=true then some h else ffN st gs l (os.drop (j+1)):=by
    rw[ein]
    unfold ffN
    rw[List.find?_cons]
    cases (!((List.range st.length).any fun a=>decide (st.getD a none=st.getD l none)&&decide (gs.getD a none=some h))) <;> rfl
   rw[ed,ef2] at ef
   refine ite2 (fun c=>?_) (fun c=>?_)
   ·have c:(!inV (.int (h:Int)) (ws.map oV))=true:=c
    rw[if_pos c] at ef
    refine⟨_,rfl,?_⟩
    have:=q H3 sm
    rw[ef] at this
    exact this
   ·have c:¬ (!inV (.int (h:Int)) (ws.map oV))=true:=c
    rw[if_neg c] at ef
    exact⟨⟨_,rfl⟩,rfl,ef⟩
  ·rintro σ H3 ⟨⟨x5,rfl⟩,rfl,ef⟩
   have:=q H3 sm
   rw[ef,bD,List.drop_length] at this
   exact this
end
end K12
namespace K12
open PySem L2 NetM
abbrev sHE:Stmt:=top 18
structure RulT(K:PySem.W.Frag)(mg:Str→Option Value)(CI:Addr):Prop where
 cl:Cls K CI
 new:Mk0 K CI
 mgC:mg "InTurn"=some (.ref CI)
 ha:PySem.W.findIn K (.ref CI) "__class__"=some (some (.builtin "object.__class__"))
 hn:PySem.W.specialIn K (.builtin "object.__class__") "__get__"=some (some (.builtin "getset_descriptor.__get__"))
 htk:PySem.W.takesIn K (.builtin "object.__class__")=some true
 hm:PySem.W.mroIn K CI (.type "object")=some true
structure mI(n:Nat)(homes:List Nat)(st:List (Option Nat)):Prop where
 le:st.length≤16
 len:homes.length=st.length
 hs:∀x∈homes,x<n
 ss:∀y,some y∈st→y<n
theorem mI.at{n:Nat}{homes:List Nat}{st:List (Option Nat)}(S:mI n homes st){l:Nat}(h:l∈unw st st.length):l<st.length∧∃y,st.getD l none=some y∧y<n∧homes.getD l 0<n:=by
 obtain⟨a,b⟩:=xS h
 refine⟨a,_,b,S.ss _ ?_,S.hs _ ?_⟩
 ·rw[← b,List.getD_eq_getElem?_getD,List.getElem?_eq_getElem a];exact List.getElem_mem _
 ·rw[cC (by rw[S.len];exact a)];exact List.getElem_mem _
theorem aE9(n:Int)(tl ol ds:Addr):(flds n tl ol ds).lookup ("good":Str)=none:=mE n tl ol ds (by decide +kernel) (by decide +kernel) (by decide +kernel) (by decide +kernel)
theorem nout(n:Int)(tl ol ds:Addr):(flds n tl ol ds).lookup ("out":Str)=none:=mE n tl ol ds (by decide +kernel) (by decide +kernel) (by decide +kernel) (by decide +kernel)
theorem jS{n:Nat}{ts:Ts}{homes:List Nat}{st:List (Option Nat)}:∀ {ls:List Nat} {gs:List (Option Nat)},(ls.foldl (stT n ts homes st) gs).length=gs.length
 |[],gs=>rfl
 |l::ls,gs=>by rw[List.foldl_cons,jS];unfold stT;rw[List.length_set]
theorem jT{n:Nat}{ts:Ts}{h:Nat}:(outN n ts h).length≤n:=Nat.le_trans (List.length_filter_le _ _) (by simp)
theorem cA.insE{C:Addr}{H:Hp}{L:Addr→Prop}{p:Addr}{n:Nat}{ts:Ts}(N:cA C H L p n ts):∃dx fs,H p=some (.ins C dx fs)∧fs.lookup ("good":Str)=none∧fs.lookup ("out":Str)=none:=by
 obtain⟨dx,tl,ol,ds,a,_⟩:=N.ob
 exact⟨dx,_,a,aE9 _ _ _ _,nout _ _ _ _⟩
section
variable {P:Program} {w:World} {K:PySem.W.Frag} {mg:Str→Option Value} {base:Heap}
theorem scHT:aW ["net","homes","stand","letters","goes","letter","house"] ["net","homes","stand","letters","goes"] (aL sHT):=⟨rfl,rfl,rfl,by decide +kernel,rfl,by decide +kernel,by decide +kernel⟩
def spHT(C:Addr):Sp:=fun vs H Q _=>∃ (L:Addr→Prop) (px ha sa la ga:Addr) (n:Nat) (ts:Ts) (homes:List Nat) (st gs:List (Option Nat)),vs=[.ref px,.ref ha,.ref sa,.ref la,.ref ga]∧cA C H L px n ts∧¬ L ga∧H ha=some (.tup (NV homes))∧H sa=some (.tup (st.map oV))∧mI n homes st∧H la=some (.lst (NV (unw st st.length)))∧la≠ga∧H ga=some (.lst (gs.map oV))∧gs.length=st.length∧
 ∀H',aO ga H H'→H' ga=some (.lst (((unw st st.length).foldl (stT n ts homes st) gs).map oV))→Q .non H'
theorem aFa{f C:Addr}{fd:FuncData}(F:Fun K "hand_in_turn" "hand_in_turn" sHT f fd)(T:NT K mg C)(MG:MCal P w K mg base CX0 6 C "good" ["self","house","home"] (pW C))(MO:MCal P w K mg base CX0 5 C "out" ["self","house"] (uC C))(FF:Cal P w K mg base CX0 1 "first_free" ["others","stand","goes","letter"] spFF):
  FnOk P w K mg base CX0 7 f fd ["net","homes","stand","letters","goes"] (spHT C):=by
 obtain⟨fG,fdG,mG,bG,GG⟩:=MG.ex
 obtain⟨fO,fdO,mO,bO,GO⟩:=MO.ex
 refine F.ok scHT (fun vs H Q E h=>?_) (fun cdv A outer s H vs Q E hr h=>?_)
 ·obtain⟨L,px,ha,sa,la,ga,n,ts,homes,st,gs,rfl,_⟩:=h
  rfl
 ·obtain⟨L,px,ha,sa,la,ga,n,ts,homes,st,gs,rfl,N,nLg,hH,hS,LO,hL,nlg,hG,gl,q⟩:=h
  have h1:Room 1 _:=hr.mono (by decide)
  have h5:Room 5 _:=hr.mono (by decide)
  refine⟨_,(aI (cH PassesOwn.never rfl (bN (pv 3)) (aK (i:=5) scHT.nd rfl (Or.inl rfl))
    (aF (aT (i:=6) scHT.nd rfl (Or.inl rfl) (aS eJ (pv 2) (pv 5) (fun _ _=>rfl)))
    (aI (cK (aN FF h1 aQ (aA (aV kP (fW (pv 0) T.cl mG GG hr bG .nil aQ (aA (pv 6) (aA (aS eJ (pv 1) (pv 5) (fun _ _=>rfl)) aD))) (fW (pv 0) T.cl mO GO h5 bO .nil aQ (aA (pv 6) aD))) (aA (pv 2) (aA (pv 4) (aA (pv 5) aD))))) (dH (pv 4) (pv 5) cN)))))),?_⟩
  have n2:=N.fine.n2
  have npg:px≠ga:=by obtain⟨dx,fs,a,_⟩:=N.insE;rintro rfl;rw[a] at hG;cases hG
  have nhg:ha≠ga:=by rintro rfl;rw[hH] at hG;cases hG
  have nsg:sa≠ga:=by rintro rfl;rw[hS] at hG;cases hG
  refine⟨_,rfl,la,rfl,⟨_,SqL.of hL⟩,dN (K:=K) (xs:=NV (unw st st.length)) (fun j σ Hc=>(∃x y,σ=[some (.ref px),some (.ref ha),some (.ref sa),some (.ref la),some (.ref ga),x,y])∧aO ga H Hc∧Hc ga=some (.lst ((((unw st st.length).take j).foldl (stT n ts homes st) gs).map oV))) ⟨⟨_,_,rfl⟩,aO.refl,hG⟩ (fun j σ Hc _ z=>SqL.of (z.2.1 _ _ hL nlg)) ?_ ?_⟩
  ·rintro j x σ Hc hx ⟨⟨x5,x6,rfl⟩,sc,hGc⟩
   obtain⟨l,hv,rfl⟩:=kD hx
   obtain⟨hl,y,ey,hy,hhm⟩:=LO.at (List.mem_of_getElem? hv)
   have tk:(unw st st.length).take (j+1)=(unw st st.length).take j++[l]:=by rw[List.take_add_one,hv];rfl
   rw[tk,List.foldl_append,List.foldl_cons,List.foldl_nil]
   have gl':(((unw st st.length).take j).foldl (stT n ts homes st) gs).length=st.length:=by rw[jS,gl]
   generalize ((unw st st.length).take j).foldl (stT n ts homes st) gs=g at *
   have Nc:=N.keep (fun b o l e=>sc b o e (by rintro rfl;exact nLg l)) (fun o e=>sc _ _ e npg)
   have hHc:=sc _ _ hH nhg
   have hSc:=sc _ _ hS nsg
   obtain⟨dx,fs,i1,i2,i3⟩:=Nc.insE
   refine⟨_,rfl,_,rfl,sa,_,_,_,rfl,rfl,SqT.of hSc,aM (oR hl),?_⟩
   rw[ey]
   refine⟨_,rfl,px,dx,fs,rfl,i1,i2,_,rfl,_,rfl,_,rfl,ha,_,_,_,rfl,rfl,SqT.of hHc,aM (eU (by rw[LO.len];exact hl)),L,px,n,ts,y,homes.getD l 0,rfl,Nc,hy,hhm,fun r1 H1 s1 hr1 g1=>?_⟩
   refine⟨_,rfl,px,dx,fs,rfl,s1 _ _ i1,i3,_,rfl,L,px,n,ts,y,rfl,Nc.same s1,hy,fun r2 H2 s2 hr2 g2=>?_⟩
   have lg:(iD n ts y (homes.getD l 0)).length≤n:=Nat.le_trans (List.length_filter_le _ _) jT
   have lo:=jT (n:=n) (ts:=ts) (h:=y)
   refine⟨r1,r2,_,_,rfl,rfl,s2 _ _ g1,g2,by rw[bD,bD];exact Nat.le_trans (show _≤64 by lia) (by decide),fun r3 hr3=>?_⟩
   have s3:=aE (o:=.lst (NV (iD n ts y (homes.getD l 0))++NV (outN n ts y))) hr3
   have s13:=(s1.trans s2).trans s3
   refine⟨_,rfl,_,rfl,_,rfl,r3,sa,ga,iD n ts y (homes.getD l 0)++outN n ts y,st,g,l,rfl,by rw[aB];unfold NV;rw[List.map_append],s13 _ _ hSc,s13 _ _ hGc,gl',LO.le,hl,fun H4 s4=>?_⟩
   have s14:=s13.trans s4
   refine⟨_,rfl,_,rfl,ga,_,(l:Int),l,rfl,rfl,s14 _ _ hGc,cV (by rw[List.length_map,gl'];exact hl),⟨_,_,rfl⟩,fun b o e m=>by rw[aH m];exact s14 _ _ (sc _ _ e m),?_⟩
   rw[aB]
   unfold stT
   rw[ey,List.map_set];rfl
  ·rintro σ Hc ⟨⟨x5,x6,rfl⟩,sc,hGc⟩
   rw[bD,List.take_length] at hGc
   exact q Hc sc hGc
theorem vA:aW ["rule","net","homes","stand","beat","letters","goes"] ["rule","net","homes","stand","beat"] (aL zZ):=⟨rfl,rfl,rfl,by decide +kernel,rfl,by decide +kernel,by decide +kernel⟩
def spHE:Sp:=fun vs _ _ _=>vs.length=5∧False
theorem aFb{f:Addr}{fd:FuncData}{k:Nat}:FnOk P w K mg base CX0 k f fd ["net","homes","stand","letters","goes"] spHE:=⟨fun _ _ _ _ h=>h.2.elim,fun _ _ _ _ _ _ _ _ _ _ _ _ _ h=>h.2.elim⟩
def vB(C CI:Addr):Sp:=fun vs H Q _=>∃ (L:Addr→Prop) (rx rd px ha sa:Addr) (bt:V) (n:Nat) (ts:Ts) (homes:List Nat) (st:List (Option Nat)),vs=[.ref rx,.ref px,.ref ha,.ref sa,bt]∧H rx=some (.ins CI rd [])∧cA C H L px n ts∧H ha=some (.tup (NV homes))∧H sa=some (.tup (st.map oV))∧mI n homes st∧
 ∀ (t:Addr) (H':Hp),Same H H'→H' t=some (.tup ((rP n ts homes st).map oV))→Q (.ref t) H'
theorem aDD{f C CI:Addr}{fd:FuncData}(F:Fun K "hand" "hand" zZ f fd)(B:Bl mg)(RT:RulT K mg CI)(MR:MCal P w K mg base CX0 2 CI "order" ["self","net","homes","stand","beat"] aBB)(HT:Cal P w K mg base CX0 7 "hand_in_turn" ["net","homes","stand","letters","goes"] (spHT C))(HE:Cal P w K mg base CX0 1 "hand_eagerly" ["net","homes","stand","letters","goes"] spHE):
  FnOk P w K mg base CX0 8 f fd ["rule","net","homes","stand","beat"] (vB C CI):=by
 obtain⟨fR,fdR,mR,bR,GR⟩:=MR.ex
 refine F.ok vA (fun vs H Q E h=>?_) (fun cdv A outer s H vs Q E hr h=>?_)
 ·obtain⟨L,rx,rd,px,ha,sa,bt,n,ts,homes,st,rfl,_⟩:=h
  rfl
 ·obtain⟨L,rx,rd,px,ha,sa,bt,n,ts,homes,st,rfl,hR,N,hH,hS,LO,q⟩:=h
  have h1:Room 1 _:=hr.mono (by decide)
  have h2:Room 2 _:=hr.mono (by decide)
  refine'⟨_,(aF (aT (i:=5) vA.nd rfl (Or.inl rfl) (fW (pv 0) RT.cl mR GR h2 bR .nil aQ (aA (pv 1) (aA (pv 2) (aA (pv 3) (aA (pv 4) aD))))))
   (aF (dB (i:=6) (g:=(bB 0)) (te:=(tC .non)) (NB:=["home"]) (src:=[none]) (bP (by kernel_rfl)) rfl (aAk (pv 2)) ?g1 ?t1 ?e1 vA.nd rfl rfl rfl)
   (aF (bZ (fJ (aU aAD (by rfl) B.isi PyProof.Rows.boot_isinstance (aA (pv 0) (aA (lN (v:=.ref CI) rfl RT.mgC rfl) aD)))) (aI (bV (aN HT hr aQ (aA (pv 1) (aA (pv 2) (aA (pv 3) (aA (pv 5) (aA (pv 6) aD)))))))) (aI (bV (aN HE h1 aQ (aA (pv 1) (aA (pv 2) (aA (pv 3) (aA (pv 5) (aA (pv 6) aD)))))))))
   (aI (bA (cJ eT (by rfl) B.tup PyProof.Rows.boot_tuple (aA (pv 6) aD))))))),?_⟩
  case g1=>exact fun cl C s₃ H₃ fp=>(aK (i:=0) aDA rfl (Or.inl rfl) (Or.inr rfl))
  case t1=>exact fun cl C s₃ H₃ fp=>cQ
  case e1=>exact fun cl C s₃ H₃ fp=>eI
  refine⟨_,rfl,rx,rd,[],rfl,hR,rfl,_,rfl,_,rfl,_,rfl,_,rfl,_,_,_,_,sa,st,rfl,hS,LO.le,fun la H1 s1 hL1=>?_⟩
  refine⟨_,rfl,ha,rfl,⟨_,SqT.of (s1 _ _ hH)⟩,fun ga hg=>?_⟩
  refine uP (K:=K) (a:=ha) (xs:=NV homes) (fun i ys σ H2=>(∃x,σ=[x])∧Same H1 H2∧H2 ga=some (.lst ys)∧ys=List.replicate i V.non) ⟨⟨_,rfl⟩,aE hg,aB,rfl⟩ (fun i ys σ H2 _ z=>SqT.of (z.2.1 _ _ (s1 _ _ hH))) ?_ ?_
  ·rintro i x ys σ H2 Kt Kf hx ⟨⟨x',rfl⟩,sm,hg2,rfl⟩ kt kf
   have hi:i<homes.length:=by have:=(List.getElem?_eq_some_iff.mp hx).1;rwa [bD] at this
   have:=LO.len
   have:=LO.le
   exact kt _ _ _ hg2 (by rw[List.length_replicate];exact Nat.lt_of_lt_of_le (show i<17 by lia) (by decide)) ⟨⟨_,rfl⟩,bE sm hg,aB,by rw[List.replicate_succ']⟩
  rintro ys σ H2 ⟨_,sm,hg2,rfl⟩
  rw[bD,LO.len,show V.non=oV none from rfl,← List.map_replicate] at hg2
  have s2:=s1.trans sm
  have hR2:=s2 _ _ hR
  refine⟨_,rfl,.ref rx,CI,.ref CI,true,rfl,by unfold PySem.W.kitOne;rw[if_pos (beq_self_eq_true _)],.of (.ins hR2 RT.cl RT.ha RT.hn RT.htk RT.hm),_,rfl,?_⟩
  refine iteT ?_
  have hgf:H ga=none:=s1.free hg
  refine⟨_,rfl,_,rfl,_,rfl,_,rfl,_,rfl,fun b=>H b≠none,px,ha,sa,la,ga,n,ts,homes,st,_,rfl,N.own.same s2,fun z=>z hgf,s2 _ _ hH,s2 _ _ hS,LO,sm _ _ hL1,aG hL1 hg,hg2,by rw[List.length_replicate],fun H3 s3 hg3=>?_⟩
  refine⟨_,rfl,ga,_,rfl,.inl ⟨SqL.of hg3,fun t ht=>?_⟩⟩
  exact q t _ (fun b o e=>aE ht _ _ (s3 _ _ (s2 _ _ e) (aG e hgf))) aB
end
end K12
namespace K12
open PySem L2 NetM
abbrev aAa:Stmt:=top 45
theorem cA.weak{C p:Addr}{H:Hp}{L L':Addr→Prop}{n:Nat}{ts:Ts}(N:cA C H L p n ts)(k:∀b,L b→L' b):cA C H L' p n ts:=by
 obtain⟨F',dx',tl,ol,ds,q1,q2,q3,⟨b1,c1,d1,e1⟩,⟨b2,c2,d2,e2⟩,⟨a3,zs,b3,c3,d3,e3⟩⟩:=N
 exact⟨F',dx',tl,ol,ds,q1,k _ q2,k _ q3,⟨b1,c1,fun b hb=>k b (d1 b hb),e1⟩,⟨b2,c2,fun b hb=>k b (d2 b hb),e2⟩,⟨k _ a3,zs,b3,c3,fun z hz=>k _ (d3 z hz),e3⟩⟩
theorem Tab.keepE{p Pt:Addr}{H H':Hp}(t:Tab Pt H)(s:aO p H H')(hp:aY H p):Tab Pt H':=by
 obtain⟨a,b,e,_⟩:=hp
 rcases t with z|⟨c,z,y⟩
 ·exact .inl (s _ _ z (by rintro rfl;rw[z] at e;cases e))
 ·exact .inr ⟨c,s _ _ z (by rintro rfl;rw[z] at e;cases e),s _ _ y (by rintro rfl;rw[y] at e;cases e)⟩
theorem bL.weak{H:Hp}{L L':Addr→Prop}{l n:Nat}{r:Nat→List Nat}(R:bL H L l n r)(k:∀b,L b→L' b):bL H L' l n r:=let ⟨bs,a,b,c⟩:=R;⟨bs,a,fun x hx=>k x (b x hx),c⟩
def aCE(p:Addr)(H H':Hp):Prop:=∀b o,H b=some o→(∀ps,o≠.tbl ps)→b≠p→H' b=some o
structure vC(C:Addr)(H0 H:Hp)(t px oa fa ha sa:Addr)(n:Nat)(ts:Ts)(homes:List Nat)(st:List (Option Nat)):Prop where
 tu:H t=some (.tup [.ref px,.ref oa,.ref fa,.ref ha,.ref sa])
 net:cA C H (fun b=>H0 b=none) px n ts
 px:H0 px=none
 out:bL H (fun b=>H0 b=none) oa n (outN n ts)
 oa:H0 oa=none
 far:bL H (fun b=>H0 b=none) fa n (fun h=>(List.range n).map (far ts h))
 fa:H0 fa=none
 ha:H ha=some (.tup (NV homes))
 sa:H sa=some (.tup (st.map oV))
 le:st.length≤16
 sd:Stnd n ts homes st
section
variable {P:Program} {w:World} {K:PySem.W.Frag} {mg:Str→Option Value} {base:Heap}
theorem jU:aW ["_law_pot_here","_law_many","_law_ties","_law_outs_here","_law_homes","_law_stand"] ["_law_pot_here"] (aL aAa):=⟨rfl,rfl,rfl,by decide +kernel,rfl,by decide +kernel,by decide +kernel⟩
def vD(C Pt:Addr):Sp:=fun vs H Q _=>∃p:Addr,vs=[.ref p]∧aY H p∧Tab Pt H∧
 ∀ (t px oa fa ha sa:Addr) (n:Nat) (ts:Ts) (homes:List Nat) (st:List (Option Nat)) (H':Hp),aCE p H H'→aY H' p→Tab Pt H'→vC C H H' t px oa fa ha sa n ts homes st→Q (.ref t) H'
theorem aDE{f C Pt fI:Addr}{fd fdI:FuncData}(F:Fun K "_law_case" "_law_case" aAa f fd)(T:NT K mg C)(M:Mk K C fI)(bI:fL K fdI ["self","many","ties"] [])(GI:FnOk P w K mg base CX0 7 fI fdI ["self","many","ties"] (uH C Pt))(NE:Cal P w K mg base CX0 3 "_law_net" ["_law_pot_here"] zX)(OU:Cal P w K mg base CX0 1 "_law_outs" ["_law_many","_law_ties"] pT)(ST:Cal P w K mg base CX0 2 "_law_start" ["_law_pot_here","_law_outs_here"] pU)(FA:Cal P w K mg base CX0 1 "_law_far" ["_law_outs_here"] uV):
  FnOk P w K mg base CX0 9 f fd ["_law_pot_here"] (vD C Pt):=by
 refine F.ok jU (fun vs H Q E h=>?_) (fun cdv A outer s H vs Q E hr h=>?_)
 ·obtain⟨p,rfl,_⟩:=h
  rfl
 ·obtain⟨p,rfl,hp,tb,q⟩:=h
  have h1:Room 1 _:=hr.mono (by decide)
  have h2:Room 2 _:=hr.mono (by decide)
  have h3:Room 3 _:=hr.mono (by decide)
  refine⟨_,(aF (cK (aN NE h3 aQ (aA (pv 0) aD)) (cM (n:=2) rfl (aR (aK (i:=1) jU.nd rfl (Or.inl rfl)) (aR (aK (i:=2) jU.nd rfl (Or.inl rfl)) cF))))
   (aF (aT (i:=3) jU.nd rfl (Or.inl rfl) (aN OU h1 aQ (aA (pv 1) (aA (pv 2) aD))))
   (aF (cK (aN ST h2 aQ (aA (pv 0) (aA (pv 3) aD))) (cM (n:=2) rfl (aR (aK (i:=4) jU.nd rfl (Or.inl rfl)) (aR (aK (i:=5) jU.nd rfl (Or.inl rfl)) cF))))
   (aI (bA (bW (aA (aCK M GI hr rfl T.mgC bI .nil aQ (aA (pv 1) (aA (pv 2) aD))) (aA (pv 3) (aA (aN FA h1 aQ (aA (pv 3) aD)) (aA (pv 4) (aA (pv 5) aD))))))))))),?_⟩
  refine⟨_,rfl,p,rfl,hp,fun t0 r n zs H1 s1 hp1 ht0 ht1 hr0 hr1 po1 F1=>⟨t0,_,rfl,SqT.of ht1,rfl,_,_,rfl,_,_,rfl,rfl,?_⟩⟩
  refine⟨_,rfl,_,rfl,n,r,zs,rfl,hr1,po1,F1,fun oa H2 s2 hoa R2=>?_⟩
  have fr1:∀ {b:Addr},H1 b=none→H b=none:=fun h=>s1.free hp1.full h
  refine⟨_,rfl,_,rfl,p,oa,n,zp zs,_,rfl,F1.n1,F1.n2,hp1.same s2,R2,hoa,fun z=>hp1.full z,fun t3 ha sa homes st H3 s3 hp3 ht3 hha hsa sl SD=>⟨t3,_,rfl,SqT.of ht3,rfl,_,_,rfl,_,_,rfl,rfl,?_⟩⟩
  have R3:=R2.keep hoa fun b o l e=>s3 b o e fun z=>hp1.full (z ▸ l)
  have nrp:r≠p:=hp.ne hr0
  have hr3:=s3 _ _ (s2 _ _ hr1) nrp
  have po3:=(po1.same s2).sameE s3 (hp1.same s2)
  have s03:aO p H H3:=(s1.trans (aO.of s2)).trans s3
  have t3':=tb.keepE s03 hp
  refine⟨_,rfl,_,rfl,fun px dx nx ndx nex=>?_⟩
  have sN:Same H3 (upd (upd H3 dx (.own px)) px (.ins C dx [])):=(aE (o:=.own px) ndx).trans (aE (D:=px) (o:=.ins C dx []) (by rw[aH nex.symm];exact nx))
  refine⟨px,dx,n,r,zs,rfl,aB,⟨F1,sN _ _ hr3,po3.same sN⟩,t3'.same sN,fun H5 N5 t5 s5=>⟨rfl,?_⟩⟩
  have k35:∀b o,H3 b=some o→(∀ps,o≠.tbl ps)→H5 b=some o:=fun b o e nt=>s5 b o (sN _ _ e) (aG e nx) ((t3'.same sN).not (sN _ _ e) nt)
  have fr3:∀ {b:Addr},H3 b=none→H b=none:=fun h=>s03.free hp3.full h
  have fr3':∀ {b:Addr},(upd (upd H3 dx (.own px)) px (.ins C dx [])) b=none→H b=none:=fun h=>fr3 (sN.free h)
  have nl:∀ {xs:List V} (ps),HO.lst xs≠.tbl ps:=fun ps z=>by cases z
  have nt:∀ {xs:List V} (ps),HO.tup xs≠.tbl ps:=fun ps z=>by cases z
  obtain⟨bs,b1,b2,b3⟩:=R3
  have R5:bL H5 (fun a=>H1 a=none) oa n (outN n (zp zs)):=⟨bs,k35 _ _ b1 nl,b2,b3.mono fun j hj e=>k35 _ _ e nl⟩
  have hp5:aY H5 p:=by obtain⟨x,y,e,r⟩:=hp3;exact⟨x,y,k35 _ _ e nl,r⟩
  have kp:aCE p H H5:=fun b o e n m=>k35 _ _ (s03 _ _ e m) n
  refine⟨_,rfl,_,rfl,_,oa,n,zp zs,rfl,F1,R5,fun fa H6 s6 hfa R6=>⟨_,rfl,_,rfl,by show 5≤sizeLine;decide,fun t ht=>?_⟩⟩
  have sT:=aE (o:=.tup [.ref px,.ref oa,.ref fa,.ref ha,.ref sa]) ht
  have s57:=s6.trans sT
  have fr5:∀ {b:Addr},H5 b=none→H b=none:=fun {b} h=>by
   cases e:H b with
   |none=>rfl
   |some o=>
    by_cases m:b=p
    ·subst m;exact absurd h hp5.full
    ·by_cases z:b=Pt
     ·subst z
      rcases t5 with y|⟨c,y,_⟩ <;> (rw[h] at y;cases y)
     ·rw[s5 b o (sN _ _ (s03 _ _ e m)) (aG (s03 _ _ e m) nx) z] at h;cases h
  refine q t px oa fa ha sa n (zp zs) homes st _ (fun b o e n m=>s57 _ _ (kp b o e n m)) (hp5.same s57) (t5.same s57) ⟨aB,(N5.same s57).weak fun b hb=>fr3' hb,fr3 nx,(R5.weak fun b hb=>fr1 hb).keep (fr1 hoa) (fun b o _ e=>s57 _ _ e),fr1 hoa,(R6.weak fun b hb=>fr5 hb).keep (fr5 hfa) (fun b o _ e=>sT _ _ e),fr5 hfa,s57 _ _ (k35 _ _ hha nt),s57 _ _ (k35 _ _ hsa nt),sl,SD⟩
end
end K12
namespace K12
open PySem L2 NetM
theorem oT{g:List (Option Nat)}{l a:Nat}{v:Option Nat}(h:l<g.length):(g.set l v).getD a none=if l=a then v else g.getD a none:=by
 rw[List.getD_eq_getElem?_getD,List.getD_eq_getElem?_getD,List.getElem?_set]
 by_cases e:l=a
 ·rw[if_pos e,if_pos e,if_pos h];rfl
 ·rw[if_neg e,if_neg e]
theorem aBC{m a:Nat}:(List.replicate m (none:Option Nat)).getD a none=none:=by
 rw[List.getD_eq_getElem?_getD,List.getElem?_replicate];split <;> rfl
theorem vE{n:Nat}{ts:Ts}{homes:List Nat}{st:List (Option Nat)}:∀ {ls:List Nat} {g:List (Option Nat)} {a:Nat},(∀l∈ls,l<g.length)→a∉ls→(ls.foldl (stT n ts homes st) g).getD a none=g.getD a none
 |[],_,_,_,_=>rfl
 |l::ls,g,a,hl,ha=>by
  rw[List.foldl_cons,vE (fun x hx=>by unfold stT;rw[List.length_set];exact hl x (List.mem_cons_of_mem _ hx)) (fun z=>ha (List.mem_cons_of_mem _ z))]
  unfold stT
  rw[oT (hl l List.mem_cons_self),if_neg (by rintro rfl;exact ha List.mem_cons_self)]
def Tkn(st gs:List (Option Nat))(ps:Ts):Prop:=∀y h:Nat,(ci y,ci h)∈ps↔∃a,a<st.length∧st.getD a none=some y∧gs.getD a none=some h
theorem aDF{st gs:List (Option Nat)}{ps:Ts}{l y:Nat}{os:List Nat}(k:Tkn st gs ps)(ey:st.getD l none=some y):ffN st gs l os=(os.filter fun h=>!decide ((ci y,ci h)∈ps)).head?:=by
 unfold ffN
 rw[List.head?_filter]
 congr 1
 funext h
 congr 1
 rw[Bool.eq_iff_iff,List.any_eq_true,decide_eq_true_iff,k y h]
 constructor
 ·rintro⟨a,ha,e⟩
  rw[Bool.and_eq_true,decide_eq_true_iff,decide_eq_true_iff,ey] at e
  exact⟨a,List.mem_range.mp ha,e.1,e.2⟩
 ·rintro⟨a,ha,e1,e2⟩
  exact⟨a,List.mem_range.mpr ha,by rw[e1,ey,e2];simp⟩
theorem Tkn.put{st gs:List (Option Nat)}{ps:Ts}{l y x:Nat}(k:Tkn st gs ps)(gl:gs.length=st.length)(hl:l<st.length)(ey:st.getD l none=some y)(en:gs.getD l none=none):Tkn st (gs.set l (some x)) (ps++[(ci y,ci x)]):=fun y' h=>by
 rw[List.mem_append,k y' h,List.mem_singleton]
 constructor
 ·rintro(⟨a,ha,e1,e2⟩|e)
  ·refine⟨a,ha,e1,?_⟩
   rw[oT (by lia),if_neg (by rintro rfl;rw[en] at e2;cases e2)]
   exact e2
  ·have e1:=Int.ofNat.inj (Prod.mk.inj e).1
   have e2:=Int.ofNat.inj (Prod.mk.inj e).2
   exact⟨l,hl,by rw[ey,e1],by rw[oT (by lia),if_pos rfl,e2]⟩
 ·rintro⟨a,ha,e1,e2⟩
  rw[oT (by lia)] at e2
  by_cases c:l=a
  ·subst c
   rw[if_pos rfl] at e2
   rw[ey] at e1
   cases e1;cases e2
   exact .inr rfl
  ·rw[if_neg c] at e2
   exact .inl ⟨a,ha,e1,e2⟩
theorem qW:∀ {l m:List Nat},l.Nodup→(∀x∈l,x∈m)→l.length≤m.length
 |[],m,_,_=>Nat.zero_le _
 |x::l,m,nd,h=>by
  have hx:=h x List.mem_cons_self
  obtain⟨n1,n2⟩:=List.nodup_cons.mp nd
  have:=qW (l:=l) (m:=m.erase x) n2 fun y hy=>(List.mem_erase_of_ne (by rintro rfl;exact n1 hy)).mpr (h y (List.mem_cons_of_mem _ hy))
  rw[List.length_erase_of_mem hx] at this
  have:=List.length_pos_of_mem hx
  rw[List.length_cons];lia
theorem aEu{y:Nat}{st:List (Option Nat)}:((List.range st.length).filter fun a=>decide (st.getD a none=some y)).length=st.count (some y):=by
 have e:∀k,k≤st.length→((List.range k).filter fun a=>decide (st.getD a none=some y)).length=(st.take k).count (some y):=fun k=>by
  induction k with
  |zero=>intro _;rw[List.take_zero];rfl
  |succ k ih=>
   intro hk
   rw[List.range_succ,List.filter_append,List.length_append,ih (by lia),List.take_add_one,List.count_append]
   congr 1
   rw[List.getElem?_eq_getElem (show k<st.length by lia),Option.toList_some,List.count_cons,List.count_nil,List.filter_cons,List.getD_eq_getElem?_getD,List.getElem?_eq_getElem (show k<st.length by lia),Option.getD_some]
   by_cases c:st[k]=some y <;> simp[c]
 rw[e _ (Nat.le_refl _),List.take_length]
theorem aDG{n:Nat}{ts:Ts}{homes:List Nat}{st gs:List (Option Nat)}{ps:Ts}{l y:Nat}(S:Stnd n ts homes st)(k:Tkn st gs ps)(hl:l<st.length)(ey:st.getD l none=some y)(en:gs.getD l none=none)(hy:y<n):(outN n ts y).filter (fun h=>!decide ((ci y,ci h)∈ps))≠[]:=fun e=>by
 have all:∀h∈outN n ts y,(ci y,ci h)∈ps:=fun h hh=>by
  have:=List.filter_eq_nil_iff.mp e h hh
  simpa using this
 have m:l∈(List.range st.length).filter fun a=>decide (st.getD a none=some y):=List.mem_filter.mpr ⟨List.mem_range.mpr hl,decide_eq_true ey⟩
 have c:=S.cap y hy
 rw[← aEu] at c
 have:=qW (yX (ts:=ts) hy) (m:=(((List.range st.length).filter fun a=>decide (st.getD a none=some y)).erase l).map fun a=>(gs.getD a none).getD 0) fun h hh=>by
  obtain⟨a,ha,e1,e2⟩:=(k y h).mp (all h hh)
  refine List.mem_map.mpr ⟨a,(List.mem_erase_of_ne (by rintro rfl;rw[en] at e2;cases e2)).mpr (List.mem_filter.mpr ⟨List.mem_range.mpr ha,decide_eq_true e1⟩),by rw[e2];rfl⟩
 rw[List.length_map,List.length_erase_of_mem m] at this
 have:=List.length_pos_of_mem m
 lia
end K12
namespace L2
open PySem PySem.Spec PyProof.Rows
section
variable {X:Cx} {pos:Pos}
def aFc(i j k:Nat)(ta:TA):TS:=fun D σ H=>ta σ H fun vs H1=>∃u v w,vs=[u,v,w]∧D.nx (((σ.set i (some u)).set j (some v)).set k (some w)) H1
theorem aDH{i j k:Nat}{x y z:Str}{a b c:Expr}{ta:TA}{px py pz pt:Pos}{kt k2 pt2}(hc:X.calm=true)(hN:X.N.Nodup)(hi:X.N[i]?=some x)(hj:X.N[j]?=some y)(hk:X.N[k]?=some z)(hij:i≠j)(hik:i≠k)(hjk:j≠k)(hx:X.env.scope.names.lookup x=some .local)(hy:X.env.scope.names.lookup y=some .local)(hz:X.env.scope.names.lookup z=some .local)(ha:PA X [a,b,c] ta)(hw:swappedStores [.Tuple [.Name x px,.Name y py,.Name z pz] kt pt] (.Tuple [a,b,c] k2 pt2) X.env=pure (some [x,y,z]))(hs:swapsWithSole [.Tuple [.Name x px,.Name y py,.Name z pz] kt pt] (.Tuple [a,b,c] k2 pt2) pos.line X.env=pure false:=by rfl):
  PS X (.Assign [.Tuple [.Name x px,.Name y py,.Name z pz] kt pt] (.Tuple [a,b,c] k2 pt2) pos) (aFc i j k ta):=by
 intro pins s σ H D I h
 rw[exec_Assign_arm]
 refine wpAny_bind (wpAny_standAt ?_)
 rw[hs]
 refine wpAny_bind (wpAny_pure ?_)
 rw[if_neg (by decide)]
 refine wpAny_bind (Tuple_ (thn (ha _ pins s σ H _ I h) fun us s1 ⟨vs,H1,I1,r1,q1⟩=>?_))
 obtain⟨u,v,w,e1,q1⟩:=q1
 subst e1
 obtain⟨u1,u2,u3,rfl,ru,rv,rw'⟩:∃u1 u2 u3,us=[u1,u2,u3]∧RelV u u1∧RelV v u2∧RelV w u3:=by
  cases r1 with
  |cons p q=>
   cases q with
   |cons p' q'=>
    cases q' with
    |cons p'' q''=>
     cases q''
     exact⟨_,_,_,rfl,p,p',p''⟩
 refine wpAny_newObj_type ?_ (by show 3≤sizeLine;decide)
 have I2:Inv X pins σ H1 { s1 with heap:=s1.heap.push { cls:=.type "tuple",data:=.seq [u1,u2,u3].toArray } }:=I1.kept (t':=s1.toks) fun b o e=>Heap.get?_push_of_some _ e
 rw[hw]
 refine wpAny_bind (wpAny_pure ?_)
 show wpAny (model X.prog X.w) X.A (do rule "assign.swapped-stores";let items ← unpackItems (.ref s1.heap.objs.size) 3 none;assignInOrder [fun v=>bindName X.env z v,fun v=>bindName X.env y v,fun v=>bindName X.env x v] items.reverse;pure Flow.next) _ _ _
 refine wpAny_bind (wpAny_rule (wpAny_bind (unpackItems_tuple (items:=#[u1,u2,u3]) (I.ok.hd hc) (IsTup.new s1.heap _) fun h' hx'=>?_)))
 have I3:=I2.kept (h':=h') (t':=s1.toks) fun b o e=>hx' b o (Nat.ne_of_lt (Heap.lt_size e)) e
 show wpAny _ _ (assignInOrder [fun v=>bindName X.env z v,fun v=>bindName X.env y v,fun v=>bindName X.env x v] [u3,u2,u1] >>= fun _=>pure Flow.next) _ _ _
 refine wpAny_bind (assignInOrder_cons (wpAny_bindName (eH I3 hN hk (.inl hz) rw' (fun s2 I4=>?_) (.inr hz))))
 refine assignInOrder_cons (wpAny_bindName (eH I4 hN hj (.inl hy) rv (fun s3 I5=>?_) (.inr hy)))
 refine assignInOrder_cons (wpAny_bindName (eH I5 hN hi (.inl hx) ru (fun s4 I6=>assignInOrder_nil (wpAny_pure ?_)) (.inr hx)))
 rw[List.set_comm _ _ (Ne.symm hjk),List.set_comm _ _ (Ne.symm hik),List.set_comm _ _ (Ne.symm hij)] at I6
 exact⟨_,H1,I6,q1⟩
end
end L2
namespace K12
open PySem L2 NetM
abbrev aAb:Stmt:=top 47
abbrev vF:Stmt:=top 48
abbrev aAc:Stmt:=top 49
abbrev sIH:Stmt:=top 50
theorem kH:(["_law_other","_law_house","_law_taken"]:List Str).Nodup:=by decide +kernel
theorem gI:(["_law_other","_law_far_here","_law_home","_law_house"]:List Str).Nodup:=by decide +kernel
theorem aEv:(["_law_one"]:List Str).Nodup:=by decide +kernel
theorem aEw{X:Cx}{H:Hp}{o:Option Nat}:EqD X H 0 (oV o) (oV o):=by
 cases o with
 |none=>exact fun pins s σ A u v I hu rx ry=>nP (A:=A) (s:=s) (y:=.non) (x:=.non) rx ry rfl rfl
 |some y=>exact aDj
theorem aDI{X:Cx}{H:Hp}{os:List (Option Nat)}:∀i,i<(os.map oV).length→i<(os.map oV).length→EqD X H 0 ((os.map oV).getD i .non) ((os.map oV).getD i .non):=fun i h _=>by
 rw[List.getD_eq_getElem?_getD,List.getElem?_eq_getElem h,Option.getD_some,List.getElem_map]
 exact aEw
theorem aDJ{X:Cx}(hu:X.A.units+2<cLine):OpR X (compareOp .Eq) (rTEq X false 0):=aDk (d:=0) (by lia)
theorem vG{K:PySem.W.Frag}:PySem.W.kitOne K (.type "NoneType") (.type "bool")=some false:=by kernel_rfl
section
variable {P:Program} {w:World} {K:PySem.W.Frag} {mg:Str→Option Value} {base:Heap}
theorem aEx:aW ["_law_house","_law_some","_law_taken"] ["_law_house","_law_some","_law_taken"] (aL aAb):=⟨rfl,rfl,rfl,by decide +kernel,rfl,by decide +kernel,by decide +kernel⟩
def vH:Sp:=fun vs H Q _=>∃ (y:Nat) (l z:Addr) (os:List Nat) (zs:Zs),vs=[.int (y:Nat),.ref l,.ref z]∧H l=some (.lst (NV os))∧os.length≤1000∧H z=some (.lst (zr zs))∧PO H zs∧∀ (r:Addr) (H':Hp),Same H H'→H r=none→H' r=some (.lst (NV (os.filter fun h=>!decide ((ci y,ci h)∈zp zs))))→Q (.ref r) H'
theorem aDK{f:Addr}{fd:FuncData}(F:Fun K "_law_free" "_law_free" aAb f fd):FnOk P w K mg base CX0 1 f fd ["_law_house","_law_some","_law_taken"] vH:=by
 refine F.ok aEx (fun vs H Q E h=>?_) (fun cdv A outer s H vs Q E hr h=>?_)
 ·obtain⟨y,l,z,os,zs,rfl,_⟩:=h
  rfl
 ·obtain⟨y,l,z,os,zs,rfl,hl,ol,hz,po,q⟩:=h
  refine'⟨_,(aI (bA ?c1)),?_⟩
  case c1=>
   refine' cG (g:=(bB 0)) (tt:=(hW (tOp (rInP K true) (tTup (bJ (tVar 1) (bJ (tVar 0) tNil))) (tVar 2)))) (te:=(tVar 0)) (NB:=["_law_other","_law_house","_law_taken"]) (src:=[none,some 0,some 2]) (bP (by kernel_rfl)) rfl (bN (pv 1)) ?g ?t ?e
   case g=>exact fun cl C s₃ H₃ fp=>(aK (i:=0) kH rfl (Or.inl rfl) (Or.inr rfl))
   case t=>exact fun cl C s₃ H₃ fp=>dF (aX (iW hr.u) (bW (aA (pv 1) (aA (pv 0) aD))) (pv 2) rfl)
   case e=>exact fun cl C s₃ H₃ fp=>(pv 0)
  refine⟨_,rfl,l,rfl,⟨_,SqL.of hl⟩,fun D hD=>?_⟩
  refine pS os (fun (x:Nat)=>V.int (x:Int)) (fun h=>!decide ((ci y,ci h)∈zp zs)) (fun σ=>∃a,σ=[a,some (.int (y:Nat)),some (.ref z)]) hl hD ol ⟨_,rfl⟩ ?_ ?_
  ·rintro x σ H2 Kt Kf hx ⟨a,rfl⟩ sm kt kf
   refine⟨_,rfl,_,rfl,by show 2≤sizeLine;decide,fun t ht=>?_⟩
   have st:=aE (o:=.tup [.int (y:Nat),.int (x:Nat)]) ht
   obtain⟨l1,l2⟩:=rL (K:=K) ((po.same sm).same st)
   refine⟨_,rfl,t,z,(ci y,ci x),zs.map (·.1),zp zs,rfl,rfl,SqT.of aB,?_,?_,l2,_,rfl,?_⟩
   ·rw[← gC];exact SqL.of (st _ _ (sm _ _ hz))
   ·rw[List.length_map];exact l1
   rw[if_pos rfl]
   refine ite2 (fun e=>?_) (fun e=>?_)
   ·exact⟨_,rfl,kt _ _ ⟨_,rfl⟩ st e⟩
   ·exact kf _ _ ⟨_,rfl⟩ st (by simpa using e)
  ·intro H2 sm h2
   exact q D H2 sm hD h2
theorem aDL:aW ["_law_outs_here","_law_far_here","_law_house","_law_home"] ["_law_outs_here","_law_far_here","_law_house","_law_home"] (aL vF):=⟨rfl,rfl,rfl,by decide +kernel,rfl,by decide +kernel,by decide +kernel⟩
def pX:Sp:=fun vs H Q _=>∃ (oa fa:Addr) (n i j:Nat) (ts:Ts) (L L':Addr→Prop),vs=[.ref oa,.ref fa,.int (i:Nat),.int (j:Nat)]∧Fine n ts∧bL H L oa n (outN n ts)∧bL H L' fa n (fun h=>(List.range n).map (far ts h))∧i<n∧j<n∧∀ (r:Addr) (H':Hp),Same H H'→H' r=some (.lst (NV (iD n ts i j)))→Q (.ref r) H'
theorem aCk{f:Addr}{fd:FuncData}(F:Fun K "_law_good" "_law_good" vF f fd):FnOk P w K mg base CX0 1 f fd ["_law_outs_here","_law_far_here","_law_house","_law_home"] pX:=by
 refine F.ok aDL (fun vs H Q E h=>?_) (fun cdv A outer s H vs Q E hr h=>?_)
 ·obtain⟨oa,fa,n,i,j,ts,L,L',rfl,_⟩:=h
  rfl
 ·obtain⟨oa,fa,n,i,j,ts,L,L',rfl,fi,RO,RF,hi,hj,q⟩:=h
  have n2:=fi.n2
  refine'⟨_,(aI (bA ?c1)),?_⟩
  case c1=>
   refine' cG (g:=(bB 0)) (tt:=(hW (tOp (rI0 fun i j=>.bl (decide (i<j))) (tOp (rIxL K) (tOp (rIxL K) (tVar 1) (tVar 0)) (tVar 2)) (tOp (rIxL K) (tOp (rIxL K) (tVar 1) (tVar 3)) (tVar 2))))) (te:=(tVar 0)) (NB:=["_law_other","_law_far_here","_law_home","_law_house"]) (src:=[none,some 1,some 3,some 2]) (bP (by kernel_rfl)) rfl (bN (aS aP (pv 0) (pv 2) (fun _ _=>rfl))) ?g ?t ?e
   case g=>exact fun cl C s₃ H₃ fp=>(aK (i:=0) gI rfl (Or.inl rfl) (Or.inr rfl))
   case t=>exact fun cl C s₃ H₃ fp=>dF (aX gJ (aS aP (aS aP (pv 1) (pv 0) (fun _ _=>rfl)) (pv 2) (fun _ _=>rfl)) (aS aP (aS aP (pv 1) (pv 3) (fun _ _=>rfl)) (pv 2) (fun _ _=>rfl)) (aZ _))
   case e=>exact fun cl C s₃ H₃ fp=>(pv 0)
  obtain⟨bs,b,r1,r2,r3,_⟩:=RO.row hi
  have hg:∀v,(NV ((List.range n).map (far ts v)))[j]?=some (.int (far ts v j:Nat)):=fun v=>by
   rw[List.getElem?_map,List.getElem?_map,List.getElem?_range hj];rfl
  obtain⟨bi,b0,i1,i2,i3,_⟩:=RF.row hi
  refine⟨_,rfl,_,rfl,oa,_,_,_,rfl,rfl,SqL.of r1,aM r2,b,rfl,⟨_,SqL.of r3⟩,fun D hD=>?_⟩
  refine pS (outN n ts i) (fun (x:Nat)=>V.int (x:Int)) (fun o=>decide (far ts o j<far ts i j)) (fun σ=>∃a,σ=[a,some (.ref fa),some (.int (j:Nat)),some (.int (i:Nat))]) r3 hD (Nat.le_trans jT (by lia)) ⟨_,rfl⟩ ?_ ?_
  ·rintro x σ H2 Kt Kf hx ⟨a,rfl⟩ sm kt kf
   obtain⟨bs2,b2,q1,q2,q3,_⟩:=RF.row (lX fi hi hx)
   refine⟨_,rfl,_,rfl,fa,_,_,_,rfl,rfl,SqL.of (sm _ _ q1),aM q2,_,rfl,b2,_,_,_,rfl,rfl,SqL.of (sm _ _ q3),aM (hg x),_,rfl,_,rfl,fa,_,_,_,rfl,rfl,SqL.of (sm _ _ i1),aM i2,_,rfl,b0,_,_,_,rfl,rfl,SqL.of (sm _ _ i3),aM (hg i),_,_,rfl,rfl,_,rfl,?_⟩
   refine ite2 (fun e=>?_) (fun e=>?_)
   ·exact⟨_,rfl,kt _ _ ⟨_,rfl⟩ (Same.refl _) (by simp at e ⊢;lia)⟩
   ·exact kf _ _ ⟨_,rfl⟩ (Same.refl _) (by simp at e ⊢;lia)
  ·intro H2 sm h2
   exact q D H2 sm h2
theorem scIH:aW ["_law_told","_law_due"] ["_law_told","_law_due"] (aL sIH):=⟨rfl,rfl,rfl,by decide +kernel,rfl,by decide +kernel,by decide +kernel⟩
def spIH:Sp:=fun vs H Q _=>∃ (a b:Addr) (os:List (Option Nat)),vs=[.ref a,.ref b]∧H a=some (.tup (os.map oV))∧H b=some (.tup (os.map oV))∧os.length≤16∧∀H',Same H H'→Q (.bl true) H'
theorem aFd{f:Addr}{fd:FuncData}(F:Fun K "_law_is_handing" "_law_is_handing" sIH f fd)(B:Bl mg):FnOk P w K mg base CX0 1 f fd ["_law_told","_law_due"] spIH:=by
 refine F.ok scIH (fun vs H Q E h=>?_) (fun cdv A outer s H vs Q E hr h=>?_)
 ·obtain⟨a,b,os,rfl,_⟩:=h
  rfl
 ·obtain⟨a,b,os,rfl,ha,hb,ol,q⟩:=h
  refine'⟨_,(aI (bA (gQ (aU fY (by rfl) B.isi PyProof.Rows.boot_isinstance (aA (pv 0) (aA (iF (v:=.ty "tuple") rfl B.tup PyProof.Rows.boot_tuple rfl) aD))) (gQ (jI (aDJ hr.u) (pv 0) (pv 1) (aZ _)) (jH (aAh (aU (qN rfl) (by rfl) B.any PyProof.Rows.boot_any (aA ?c1 aD)))))))),?_⟩
  case c1=>
   refine' cG (g:=(bB 0)) (te:=tCB (rIsi K) (bJ (tVar 0) (bJ (tC (.ty "bool")) tNil))) (NB:=["_law_one"]) (src:=[none]) (bP (by kernel_rfl)) rfl (aAk (pv 0)) ?g ?t ?e
   case g=>exact fun cl C s₃ H₃ fp=>(aK (i:=0) aEv rfl (Or.inl rfl) (Or.inr rfl))
   case t=>exact fun cl C s₃ H₃ fp=>cQ
   case e=>exact fun cl C s₃ H₃ fp=>(aU fY (by rfl) B.isi PyProof.Rows.boot_isinstance (aA (pv 0) (aA (iF (v:=.ty "bool") rfl B.bool PyProof.Rows.boot_bool rfl) aD)))
  refine⟨_,rfl,_,_,_,.type "tuple",true,rfl,⟨rfl,xG⟩,.of (.tup ha),true,rfl,?_⟩
  refine iteT ⟨_,rfl,_,rfl,a,b,_,_,rfl,rfl,SqT.of ha,SqT.of hb,rfl,aDI,_,rfl,iteT ?_⟩
  refine⟨_,rfl,a,rfl,⟨_,SqT.of ha⟩,fun D hD=>?_⟩
  refine uP (K:=K) (a:=a) (xs:=os.map oV) (fun i ys σ H2=>(∃x,σ=[x])∧Same H H2∧H2 D=some (.lst ys)∧ys=(List.replicate i false).map V.bl) ⟨⟨_,rfl⟩,aE hD,aB,rfl⟩ (fun i ys σ H2 _ z=>SqT.of (z.2.1 _ _ ha)) ?_ ?_
  ·rintro i x ys σ H2 Kt Kf hx ⟨⟨x',rfl⟩,sm,hD2,rfl⟩ kt kf
   obtain⟨hi,rfl⟩:=uZ hx
   have fin:=kt (.bl false) [some (oV (os.getD i none))] H2 hD2 (by rw[List.length_map,List.length_replicate];exact Nat.lt_of_lt_of_le (show i<17 by lia) (by decide)) ⟨⟨_,rfl⟩,bE sm hD,aB,by rw[List.replicate_succ',List.map_append];rfl⟩
   cases e:os.getD i none with
   |none=>rw[e] at fin;exact⟨_,rfl,_,_,_,.type "NoneType",false,rfl,⟨rfl,vG⟩,.of .non,fin⟩
   |some y=>rw[e] at fin;exact⟨_,rfl,_,_,_,.type "int",false,rfl,⟨rfl,lD⟩,.of (.int _),fin⟩
  ·rintro ys σ H2 ⟨_,sm,hD2,rfl⟩
   refine⟨D,_,rfl,SqL.of hD2,_,rfl,?_⟩
   have e:(List.replicate (os.map oV).length false).any id=false:=by
    rw[List.any_eq_false];intro x hx';rw[(List.mem_replicate.mp hx').2];decide
   rw[e]
   exact q _ sm
theorem hJ:aW ["_law_order","_law_outs_here","_law_far_here","_law_homes","_law_stand","_law_at_once","_law_goals","_law_taken","_law_late","_law_letter","_law_house","_law_free_here"] ["_law_order","_law_outs_here","_law_far_here","_law_homes","_law_stand","_law_at_once"] (aL aAc):=⟨rfl,rfl,rfl,by decide +kernel,rfl,by decide +kernel,by decide +kernel⟩
def vI:Sp:=fun vs H Q _=>∃ (la oa fa ha sa:Addr) (n:Nat) (ts:Ts) (L L':Addr→Prop) (homes:List Nat) (st:List (Option Nat)),vs=[.ref la,.ref oa,.ref fa,.ref ha,.ref sa,.bl true]∧H la=some (.lst (NV (unw st st.length)))∧Fine n ts∧bL H L oa n (outN n ts)∧L oa∧bL H L' fa n (fun h=>(List.range n).map (far ts h))∧L' fa∧H ha=some (.tup (NV homes))∧H sa=some (.tup (st.map oV))∧mI n homes st∧Stnd n ts homes st∧
 ∀ (t:Addr) (H':Hp),Same H H'→H' t=some (.tup ((rP n ts homes st).map oV))→Q (.ref t) H'
theorem aDM{f:Addr}{fd:FuncData}(F:Fun K "_law_walk" "_law_walk" aAc f fd)(B:Bl mg)(FR:Cal P w K mg base CX0 1 "_law_free" ["_law_house","_law_some","_law_taken"] vH)(GD:Cal P w K mg base CX0 1 "_law_good" ["_law_outs_here","_law_far_here","_law_house","_law_home"] pX):FnOk P w K mg base CX0 2 f fd ["_law_order","_law_outs_here","_law_far_here","_law_homes","_law_stand","_law_at_once"] vI:=by
 refine F.ok hJ (fun vs H Q E h=>?_) (fun cdv A outer s H vs Q E hr h=>?_)
 ·obtain⟨la,oa,fa,ha,sa,n,ts,L,L',homes,st,rfl,_⟩:=h
  rfl
 ·obtain⟨la,oa,fa,ha,sa,n,ts,L,L',homes,st,rfl,hL,fi,RO,hLo,RF,hLf,hH,hS,LO,SD,q⟩:=h
  have n2:=fi.n2
  refine⟨_,(aF (aDH (i:=6) (j:=7) (k:=8) rfl hJ.nd rfl rfl rfl (by decide) (by decide) (by decide) rfl rfl rfl (aA (aV nQ (bY (aA eI aD)) (aU bC (by rfl) B.len PySem.boot_len (aA (pv 4) aD))) (aA (bY aD) (aA (bY aD) aD))) (by rfl))
   (aF (cH PassesOwn.never rfl (bN (pv 0)) (aK (i:=9) hJ.nd rfl (Or.inl rfl))
    (aF (aT (i:=10) hJ.nd rfl (Or.inl rfl) (aS eJ (pv 4) (pv 9) (fun _ _=>rfl)))
    (aF (aT (i:=11) hJ.nd rfl (Or.inl rfl) (aN FR hr aQ (aA (pv 10) (aA (aN GD hr aQ (aA (pv 1) (aA (pv 2) (aA (pv 10) (aA (aS eJ (pv 3) (pv 9) (fun _ _=>rfl)) aD))))) (aA (pv 7) aD)))))
    (aF (bZ (PW.pt (nL (aX (aAO (e:=eqV) hr.u) (pv 11) (bY aD) (aZ _)) (lO (fJ (pv 5))))) (aI (aT (i:=11) hJ.nd rfl (Or.inl rfl) (aN FR hr aQ (aA (pv 10) (aA (aS aP (pv 1) (pv 10) (fun _ _=>rfl)) (aA (pv 7) aD)))))) bS)
    (aI (bZ (aX (aAO (e:=eqV) hr.u) (pv 11) (bY aD) (aZ _)) (aI (bV (dA PySem.F.plainAttrs_list PySem.F.slot_list_append PySem.F.type_list_append cE (pv 8) (aA (pv 9) aD)))) (aF (cK (aS aP (pv 11) aJ (fun _ _=>rfl)) (dH (pv 6) (pv 9) cN))
     (aI (bV (dA PySem.F.plainAttrs_list PySem.F.slot_list_append PySem.F.type_list_append cE (pv 7) (aA (bW (aA (pv 10) (aA (aS aP (pv 11) aJ (fun _ _=>rfl)) aD))) aD)))))))))))
   (aF (cH PassesOwn.never rfl (bN (pv 8)) (aK (i:=9) hJ.nd rfl (Or.inl rfl))
    (aF (aT (i:=11) hJ.nd rfl (Or.inl rfl) (aN FR hr aQ (aA (aS eJ (pv 4) (pv 9) (fun _ _=>rfl)) (aA (aS aP (pv 1) (aS eJ (pv 4) (pv 9) (fun _ _=>rfl)) (fun _ _=>rfl)) (aA (pv 7) aD)))))
    (aF (cK (aS aP (pv 11) aJ (fun _ _=>rfl)) (dH (pv 6) (pv 9) cN))
    (aI (bV (dA PySem.F.plainAttrs_list PySem.F.slot_list_append PySem.F.type_list_append cE (pv 7) (aA (bW (aA (aS eJ (pv 4) (pv 9) (fun _ _=>rfl)) (aA (aS aP (pv 11) aJ (fun _ _=>rfl)) aD))) aD)))))))
   (aI (bA (cJ eT (by rfl) B.tup PyProof.Rows.boot_tuple (aA (pv 6) aD))))))),?_⟩
  refine⟨by show 1≤sizeLine;decide,fun L1 hL1=>⟨_,rfl,sa,_,rfl,.inr (SqT.of (aE hL1 _ _ hS)),L1,_,_,rfl,rfl,aB,by lia,by rw[List.length_map];have:=LO.le;lia,by rw[List.length_map,List.length_singleton,Int.toNat_natCast];exact Nat.le_trans (show _≤16 by have:=LO.le;lia) (by decide),fun G hG=>?_⟩⟩
  rw[Int.toNat_natCast,List.length_map,iR,show V.non=oV none from rfl,← List.map_replicate]
  refine⟨by show 0≤sizeLine;decide,fun Tn hTn=>⟨by show 0≤sizeLine;decide,fun Lt hLt=>⟨_,_,_,rfl,?_⟩⟩⟩
  have s1:=aE (o:=.lst [oV none]) hL1
  have s2:=aE (o:=.lst ((List.replicate st.length none).map oV)) hG
  have s3:=aE (o:=.lst []) hTn
  have s4:=aE (o:=.lst []) hLt
  have sA:=((s1.trans s2).trans s3).trans s4
  have gG:=s4 _ _ (s3 _ _ aB)
  have gT:=s4 _ _ aB
  have gL:=(aB:(upd (upd (upd (upd H L1 (.lst [oV none])) G (.lst ((List.replicate st.length none).map oV))) Tn (.lst [])) Lt (.lst [])) Lt=_)
  have nGT:G≠Tn:=aG aB hTn
  have nGL:G≠Lt:=aG (s3 _ _ aB) hLt
  have nTL:Tn≠Lt:=aG aB hLt
  have fG:H G=none:=s1.free hG
  have fT:H Tn=none:=(s1.trans s2).free hTn
  generalize upd (upd (upd (upd H L1 (.lst [oV none])) G (.lst ((List.replicate st.length none).map oV))) Tn (.lst [])) Lt (.lst [])=H0 at *
  clear hLt hTn hG s1 s2 s3 s4
  refine⟨_,rfl,la,rfl,⟨_,SqL.of (sA _ _ hL)⟩,dN (K:=K) (xs:=NV (unw st st.length)) (fun j σ Hc=>∃zs:Zs,(∃x9 x10 x11,σ=[some (.ref la),some (.ref oa),some (.ref fa),some (.ref ha),some (.ref sa),some (.bl true),some (.ref G),some (.ref Tn),some (.ref Lt),x9,x10,x11])∧Same H Hc∧Hc G=some (.lst ((((unw st st.length).take j).foldl (stT n ts homes st) (List.replicate st.length none)).map oV))∧Hc Tn=some (.lst (zr zs))∧PO Hc zs∧zs.length≤j∧Hc Lt=some (.lst [])∧Tkn st (((unw st st.length).take j).foldl (stT n ts homes st) (List.replicate st.length none)) (zp zs)) ⟨[],⟨_,_,_,rfl⟩,sA,gG,gT,PO.nil,Nat.zero_le _,gL,fun y h=>?_⟩ (fun j σ Hc _ ⟨zs,z⟩=>SqL.of (z.2.1 _ _ hL)) ?_ ?_⟩
  ·constructor
   ·intro z;cases z
   ·rintro⟨a,_,_,e⟩
    rw[List.take_zero,List.foldl_nil,aBC] at e;cases e
  ·clear sA gG gT gL
   rintro j x σ Hc hx ⟨zs,⟨x9,x10,x11,rfl⟩,sc,hGc,hTc,po,zl,hLc,tk⟩
   obtain⟨l,hv,rfl⟩:=kD hx
   have hj:j<16:=by have:=(List.getElem?_eq_some_iff.mp hv).1;have:=pV (st:=st) (i:=st.length);have:=LO.le;lia
   obtain⟨hl,y,ey,hy,hhm⟩:=LO.at (List.mem_of_getElem? hv)
   have tj:(unw st st.length).take (j+1)=(unw st st.length).take j++[l]:=by rw[List.take_add_one,hv];rfl
   have nd:((unw st st.length).take (j+1)).Nodup:=(show (unw st st.length).Nodup from List.Pairwise.filter _ List.nodup_range).sublist (List.take_sublist _ _)
   rw[tj] at nd
   have en:(((unw st st.length).take j).foldl (stT n ts homes st) (List.replicate st.length none)).getD l none=none:=by
    rw[vE (fun x hx=>?_) (fun z=>(List.nodup_append.mp nd).2.2 l z l List.mem_cons_self rfl),aBC]
    rw[List.length_replicate]
    exact(xS (List.mem_of_mem_take hx)).1
   have gl':(((unw st st.length).take j).foldl (stT n ts homes st) (List.replicate st.length none)).length=st.length:=by rw[jS,List.length_replicate]
   rw[tj,List.foldl_append,List.foldl_cons,List.foldl_nil]
   generalize ((unw st st.length).take j).foldl (stT n ts homes st) (List.replicate st.length none)=g at *
   have est:stT n ts homes st g l=g.set l (ffN st g l (iD n ts y (homes.getD l 0)++outN n ts y)):=by unfold stT;rw[ey];rfl
   rw[aDF tk ey,List.filter_append] at est
   have ne:=aDG SD tk hl ey en hy
   have lg:(iD n ts y (homes.getD l 0)).length≤n:=Nat.le_trans (List.length_filter_le _ _) jT
   have lo:=jT (n:=n) (ts:=ts) (h:=y)
   have hHc:=sc _ _ hH
   have hSc:=sc _ _ hS
   refine⟨_,rfl,_,rfl,sa,_,_,_,rfl,rfl,SqT.of hSc,aM (oR hl),?_⟩
   rw[ey]
   refine⟨_,rfl,_,rfl,_,rfl,_,rfl,_,rfl,_,rfl,ha,_,_,_,rfl,rfl,SqT.of hHc,aM (eU (by rw[LO.len];exact hl)),oa,fa,n,y,homes.getD l 0,ts,L,L',rfl,fi,RO.keep hLo (fun b o _ e=>sc b o e),RF.keep hLf (fun b o _ e=>sc b o e),hy,hhm,fun r1 H1 s1 hr1=>?_⟩
   refine⟨_,rfl,y,r1,Tn,_,zs,rfl,hr1,by lia,s1 _ _ hTc,po.same s1,fun r2 H2 s2 hf2 hr2=>?_⟩
   have s12:=s1.trans s2
   have fr2:=s1.free hf2
   dsimp only[bB]
   refine kB (fun σ H3=>∃ (r3:Addr) (x:Nat) (os:List Nat),σ=[some (.ref la),some (.ref oa),some (.ref fa),some (.ref ha),some (.ref sa),some (.bl true),some (.ref G),some (.ref Tn),some (.ref Lt),some (.int (l:Nat)),some (.int (y:Nat)),some (.ref r3)]∧Same Hc H3∧Hc r3=none∧H3 r3=some (.lst (NV (x::os)))∧stT n ts homes st g l=g.set l (some x)) ?_ ?_
   ·rintro σ H3 ⟨r3,x,os,rfl,s3,f3,h3,e3⟩
    rw[e3]
    refine⟨_,rfl,by show 0≤sizeLine;decide,fun e hE=>?_⟩
    have sE:=aE (o:=.lst []) hE
    refine⟨r3,e,_,[],rfl,rfl,SqL.of (sE _ _ h3),SqL.of aB,fun i h1 h2=>absurd h2 (Nat.not_lt_zero _),_,rfl,oN rfl ?_⟩
    have s4:=s3.trans sE
    have h4:=sE _ _ h3
    have n3:r3≠G:=fun z=>by rw[z,hGc] at f3;cases f3
    clear h3 s3 sE hE hr1 s1 hr2 s2 s12 hf2 fr2
    generalize upd H3 e _=H4 at *
    refine⟨_,rfl,r3,_,0,oV (some x),rfl,rfl,SqL.of h4,aM (j:=0) rfl,?_⟩
    refine⟨_,rfl,_,rfl,G,_,(l:Int),l,rfl,rfl,s4 _ _ hGc,cV (by rw[List.length_map,gl'];exact hl),?_⟩
    rw[← List.map_set]
    have s5:Same H (upd H4 G (.lst ((g.set l (some x)).map oV))):=bE (sc.trans s4) fG
    have g5:(upd H4 G (.lst ((g.set l (some x)).map oV))) G=_:=aB
    have t5:(upd H4 G (.lst ((g.set l (some x)).map oV))) Tn=some (.lst (zr zs)):=by rw[aH nGT.symm];exact s4 _ _ hTc
    have l5:(upd H4 G (.lst ((g.set l (some x)).map oV))) Lt=some (.lst []):=by rw[aH nGL.symm];exact s4 _ _ hLc
    have h5:(upd H4 G (.lst ((g.set l (some x)).map oV))) r3=some (.lst (NV (x::os))):=by rw[aH n3];exact h4
    have po5:PO (upd H4 G (.lst ((g.set l (some x)).map oV))) zs:=PO.putL (po.same s4) (s4 _ _ hGc)
    generalize upd H4 G _=H5 at *
    refine⟨_,rfl,.inl ⟨rfl,_,SqL.of t5⟩,_,rfl,_,rfl,r3,_,0,V.int (x:Nat),rfl,rfl,SqL.of h5,aM (j:=0) rfl,by show 2≤sizeLine;decide,fun t ht=>?_⟩
    have st:=aE (o:=prT (ci y,ci x)) ht
    refine⟨Tn,_,_,rfl,rfl,st _ _ t5,by rw[cL];exact Nat.lt_of_le_of_lt zl (Nat.lt_of_lt_of_le (show j<16 by lia) (by decide)),?_⟩
    refine⟨zs++[(t,(ci y,ci x))],⟨_,_,_,rfl⟩,bE (s5.trans st) fT,by rw[aH nGT];exact st _ _ g5,by rw[aB,dL];rfl,PO.putL (xs:=zr zs) ((po5.same st).append (PO.one aB)) (st _ _ t5),by rw[List.length_append];exact Nat.succ_le_succ zl,by rw[aH nTL.symm];exact st _ _ l5,?_⟩
    rw[dM]
    exact tk.put gl' hl ey en
   ·intro N hN
    refine⟨_,rfl,by show 0≤sizeLine;decide,fun e hE=>?_⟩
    have sE:=aE (o:=.lst []) hE
    refine⟨r2,e,_,[],rfl,rfl,SqL.of (sE _ _ hr2),SqL.of aB,fun i h1 h2=>absurd h2 (Nat.not_lt_zero _),_,rfl,?_⟩
    rw[if_neg Bool.false_ne_true,aBk]
    cases hF:(iD n ts y (homes.getD l 0)).filter fun h=>!decide ((ci y,ci h)∈zp zs) with
    |cons x os=>
     rw[hF] at hr2 est
     refine oN rfl (iteF (hN _ _ ⟨r2,x,os,rfl,s12.trans sE,fr2,sE _ _ hr2,est⟩))
    |nil=>
     rw[hF,List.nil_append] at est
     refine rK rfl ⟨_,rfl,_,rfl,iteT ?_⟩
     have s3:=s12.trans sE
     have s03:=sc.trans s3
     obtain⟨bs,b,r1,r2',r3,_⟩:=(RO.keep hLo (fun b o _ e=>s03 b o e)).row hy
     refine⟨_,rfl,_,rfl,_,rfl,oa,_,_,_,rfl,rfl,SqL.of r1,aM r2',_,rfl,y,b,Tn,_,zs,rfl,r3,by lia,s3 _ _ hTc,po.same s3,fun r4 H4 s4 hf4 hr4=>?_⟩
     cases hF2:(outN n ts y).filter fun h=>!decide ((ci y,ci h)∈zp zs) with
     |nil=>exact absurd hF2 ne
     |cons x os=>
      rw[hF2] at hr4 est
      exact hN _ _ ⟨r4,x,os,rfl,s3.trans s4,s3.free hf4,hr4,est⟩
  ·rintro σ Hc ⟨zs,⟨x9,x10,x11,rfl⟩,sc,hGc,hTc,po,zl,hLc,tk⟩
   rw[bD,List.take_length] at hGc
   refine⟨_,rfl,Lt,rfl,⟨_,SqL.of hLc⟩,dN (K:=K) (xs:=[]) (fun j σ H2=>H2=Hc∧∃x9 x11,σ=[some (.ref la),some (.ref oa),some (.ref fa),some (.ref ha),some (.ref sa),some (.bl true),some (.ref G),some (.ref Tn),some (.ref Lt),x9,x10,x11]) ⟨rfl,_,_,rfl⟩ (fun j σ H2 _ z=>by rw[z.1];exact SqL.of hLc) (fun j x σ H2 hx=>by cases hx) ?_⟩
   rintro σ H2 ⟨rfl,x9',x11',rfl⟩
   exact⟨_,rfl,G,_,rfl,.inl ⟨SqL.of hGc,fun t ht=>q t _ (sc.trans (aE ht)) aB⟩⟩
end
end K12
namespace K12
open PySem L2 NetM
abbrev sLaw:Stmt:=top 51
theorem iU:(["_law_letter","_law_house"]:List Str).Nodup:=by decide +kernel
theorem Stnd.let{n:Nat}{ts:Ts}{homes:List Nat}{st:List (Option Nat)}(S:Stnd n ts homes st)(le:st.length≤16):mI n homes st:=⟨le,S.len,S.hs,fun y hy=>by obtain⟨i,hi⟩:=List.mem_iff_getElem?.mp hy;exact(S.ss i y hi).1⟩
def NTb(o:HO):Prop:=∀ps,o≠.tbl ps
abbrev kI(A:Addr)(H H':Hp):Prop:=∀b o,H b=some o→NTb o→b≠A→H' b=some o
theorem cA.ntb{C:Addr}{H:Hp}{L:Addr→Prop}{p:Addr}{n:Nat}{ts:Ts}(N:cA C H L p n ts):cA C H (fun b=>L b∧∃o,H b=some o∧NTb o) p n ts:=by
 obtain⟨dx,tl,ol,ds,a,l1,l2,b,c,d⟩:=N.ob
 have ne:∀ {b xs},L b→H b=some (.lst xs)→L b∧∃o,H b=some o∧NTb o:=fun l e=>⟨l,_,e,fun ps z=>by cases z⟩
 have ne':∀ {b xs},L b→H b=some (.tup xs)→L b∧∃o,H b=some o∧NTb o:=fun l e=>⟨l,_,e,fun ps z=>by cases z⟩
 have rw':∀ {l r},L l→bL H L l n r→bL H (fun b=>L b∧∃o,H b=some o∧NTb o) l n r∧(L l∧∃o,H l=some o∧NTb o):=fun hl ⟨bs,a,b,c⟩=>⟨⟨bs,a,fun x hx=>by
  obtain⟨j,hj,e⟩:=List.getElem_of_mem hx
  have:=c.2 j (by rw[← c.1];exact hj)
  rw[List.getD_eq_getElem?_getD,List.getElem?_eq_getElem hj,Option.getD_some,e] at this
  exact ne (b x hx) this,c⟩,ne hl a⟩
 obtain⟨t1,zs,t2,t3,t4,t5⟩:=d
 exact⟨N.fine,dx,tl,ol,ds,a,(rw' l1 b).2,(rw' l2 c).2,(rw' l1 b).1,(rw' l2 c).1,ne t1 t2,zs,t2,t3,fun z hz=>ne' (t4 z hz) (t3 z hz),t5⟩
theorem cA.keepX{C A:Addr}{H H':Hp}{p:Addr}{n:Nat}{ts:Ts}(N:cA C H (·≠A) p n ts)(hp:p≠A)(k:kI A H H'):cA C H' (·≠A) p n ts:=by
 obtain⟨dx,tl,ol,ds,a,_⟩:=N.ob
 exact(N.ntb.keep (fun b o l e=>by obtain⟨l1,o',e',n⟩:=l;rw[e] at e';cases e';exact k b o e n l1) fun o e=>k _ _ e (by rw[a] at e;cases e;exact fun ps z=>by cases z) hp).weak fun b h=>h.1
theorem bL.keepX{A:Addr}{H H':Hp}{l n:Nat}{r:Nat→List Nat}(R:bL H (·≠A) l n r)(hl:l≠A)(k:kI A H H'):bL H' (·≠A) l n r:=by
 obtain⟨bs,a,b,c⟩:=R
 refine⟨bs,k _ _ a (fun ps z=>by cases z) hl,b,c.mono fun j hj e=>k _ _ e (fun ps z=>by cases z) (b _ ?_)⟩
 rw[List.getD_eq_getElem?_getD,List.getElem?_eq_getElem (by rw[c.1];exact hj)];exact List.getElem_mem _
structure oU(C A:Addr)(H:Hp)(t px oa fa ha sa:Addr)(n:Nat)(ts:Ts)(homes:List Nat)(st:List (Option Nat)):Prop where
 tu:H t=some (.tup [.ref px,.ref oa,.ref fa,.ref ha,.ref sa])
 tA:t≠A
 net:cA C H (·≠A) px n ts
 px:px≠A
 out:bL H (·≠A) oa n (outN n ts)
 oa:oa≠A
 far:bL H (·≠A) fa n (fun h=>(List.range n).map (far ts h))
 fa:fa≠A
 hA:ha≠A
 sA:sa≠A
 he:H ha=some (.tup (NV homes))
 se:H sa=some (.tup (st.map oV))
 le:st.length≤16
 sd:Stnd n ts homes st
theorem oU.keep{C A:Addr}{H H':Hp}{t px oa fa ha sa:Addr}{n:Nat}{ts:Ts}{homes:List Nat}{st:List (Option Nat)}(c:oU C A H t px oa fa ha sa n ts homes st)(k:kI A H H'):oU C A H' t px oa fa ha sa n ts homes st:=
 ⟨k _ _ c.tu (fun ps z=>by cases z) c.tA,c.tA,c.net.keepX c.px k,c.px,c.out.keepX c.oa k,c.oa,c.far.keepX c.fa k,c.fa,c.hA,c.sA,k _ _ c.he (fun ps z=>by cases z) c.hA,k _ _ c.se (fun ps z=>by cases z) c.sA,c.le,c.sd⟩
theorem vC.toK{C A:Addr}{H0 H:Hp}{t px oa fa ha sa:Addr}{n:Nat}{ts:Ts}{homes:List Nat}{st:List (Option Nat)}{xs:List V}(c:vC C H0 H t px oa fa ha sa n ts homes st)(e0:H0 A≠none)(e:H A=some (.lst xs)):oU C A H t px oa fa ha sa n ts homes st:=by
 have f:∀b,H0 b=none→b≠A:=fun b h z=>e0 (z ▸ h)
 have g:∀ {b ys},H b=some (.tup ys)→b≠A:=fun h z=>by rw[z,e] at h;cases h
 exact⟨c.tu,g c.tu,c.net.weak f,f _ c.px,c.out.weak f,f _ c.oa,c.far.weak f,f _ c.fa,g c.ha,g c.sa,c.ha,c.sa,c.le,c.sd⟩
theorem Tab.putL{D Pt:Addr}{H:Hp}{xs:List V}{o:HO}(t:Tab Pt H)(e:H D=some (.lst xs)):Tab Pt (upd H D o):=by
 have f:∀ {b u},H b=some u→(∀ys,u≠.lst ys)→(upd H D o) b=some u:=fun h n=>by rw[aH (by rintro rfl;rw[e] at h;cases h;exact n _ rfl)];exact h
 rcases t with z|⟨c,z,y⟩
 ·exact .inl (f z (fun ys z=>by cases z))
 ·exact .inr ⟨c,f z (fun ys z=>by cases z),f y (fun ys z=>by cases z)⟩
def oW(C A:Addr)(H:Hp)(q:Addr):Prop:=∃ (t:Addr) (bt:Nat) (px oa fa ha sa:Addr) (n:Nat) (ts:Ts) (homes:List Nat) (st:List (Option Nat)),H q=some (.tup [.ref t,.int bt])∧q≠A∧oU C A H t px oa fa ha sa n ts homes st
theorem oW.keep{C A:Addr}{H H':Hp}{q:Addr}(c:oW C A H q)(k:kI A H H'):oW C A H' q:=
 let ⟨t,bt,px,oa,fa,ha,sa,n,ts,homes,st,e,m,d⟩:=c
 ⟨t,bt,px,oa,fa,ha,sa,n,ts,homes,st,k _ _ e (fun ps z=>by cases z) m,m,d.keep k⟩
section
variable {P:Program} {w:World} {K:PySem.W.Frag} {mg:Str→Option Value} {base:Heap}
def SqF(K:PySem.W.Frag)(H:Hp)(a:Addr)(xs:List V):Prop:=(∃o,H a=some (.frz o (.lst xs)))∨(∀H':Hp,SqL K H' a xs)
theorem SqF.seq{H:Hp}{a:Addr}{xs:List V}(h:SqF K H a xs):SqL K H a xs:=by
 rcases h with ⟨o,h⟩|h
 ·exact .inl (.inr ⟨o,h⟩)
 ·exact h H
theorem SqF.mono{H H':Hp}{a:Addr}{xs:List V}(h:SqF K H a xs)(e:∀o u,H a=some (.frz o u)→H' a=some (.frz o u)):SqF K H' a xs:=by
 rcases h with ⟨o,h⟩|h
 ·exact .inl ⟨o,e _ _ h⟩
 ·exact .inr h
theorem eD:aW ["_law_script","_law_rule","_law_asked","_law_k","_law_pot_here","_law_beat_here","_law_case_here","_law_net_here","_law_outs_here","_law_far_here","_law_homes","_law_stand","_law_order","_law_due"] ["_law_script"] (aL sLaw):=⟨rfl,rfl,rfl,by decide +kernel,rfl,by decide +kernel,by decide +kernel⟩
def rQ(K:PySem.W.Frag)(Pt:Addr):Sp:=fun vs H Q _=>∃ (a:Addr) (ns:List Int),vs=[.ref a]∧SqF K H a (ns.map V.int)∧ns.length≤63∧Tab Pt H∧∀H',Q (.bl true) H'
theorem aEy{f C CI Pt:Addr}{fd:FuncData}(F:Fun K "law" "law" sLaw f fd)(B:Bl mg)(hE:mg "enumerate"=none)(RT:RulT K mg CI)(PT:Cal P w K mg base CX0 1 "_law_pot" ["_law_script","_law_k"] (zM K))(BE:Cal P w K mg base CX0 2 "_law_beat" ["_law_pot_here"] uM)(CA:Cal P w K mg base CX0 9 "_law_case" ["_law_pot_here"] (vD C Pt))(HA:Cal P w K mg base CX0 8 "hand" ["rule","net","homes","stand","beat"] (vB C CI))(WA:Cal P w K mg base CX0 2 "_law_walk" ["_law_order","_law_outs_here","_law_far_here","_law_homes","_law_stand","_law_at_once"] vI)(IH:Cal P w K mg base CX0 1 "_law_is_handing" ["_law_told","_law_due"] spIH):FnOk P w K mg base CX0 10 f fd ["_law_script"] (rQ K Pt):=by
 refine F.ok eD (fun vs H Q E h=>?_) (fun cdv A outer s H vs Q E hr h=>?_)
 ·obtain⟨a,ns,rfl,_⟩:=h
  rfl
 ·obtain⟨a,ns,rfl,hS,hns,tb,q⟩:=h
  have h1:Room 1 _:=hr.mono (by decide)
  have h2:Room 2 _:=hr.mono (by decide)
  have h8:Room 8 _:=hr.mono (by decide)
  refine'⟨_,(aF (aT (i:=1) eD.nd rfl (Or.inl rfl) (aEh RT.new rfl RT.mgC))
   (aF (aT (i:=2) eD.nd rfl (Or.inl rfl) (bY aD))
   (aF (cH PassesOwn.never rfl (bT rfl B.range (aA aJ aD)) (aK (i:=3) eD.nd rfl (Or.inl rfl))
    (aF (aT (i:=4) eD.nd rfl (Or.inl rfl) (aN PT h1 aQ (aA (pv 0) (aA (pv 3) aD))))
    (aF (aT (i:=5) eD.nd rfl (Or.inl rfl) (aN BE h2 aQ (aA (pv 4) aD)))
    (aI (bV (dA PySem.F.plainAttrs_list PySem.F.slot_list_append PySem.F.type_list_append cE (pv 2) (aA (bW (aA (aN CA hr aQ (aA (pv 4) aD)) (aA (pv 5) aD))) aD)))))))
   (aF (cH PassesOwn.never rfl (bN (aV kP (pv 2) (mU pC (pv 2) oZ (pA aJ)))) (cM (n:=2) rfl (aR (aK (i:=6) eD.nd rfl (Or.inl rfl)) (aR (aK (i:=5) eD.nd rfl (Or.inl rfl)) cF)))
    (aF (cK (pv 6) (cM (n:=5) rfl (aR (aK (i:=7) eD.nd rfl (Or.inl rfl)) (aR (aK (i:=8) eD.nd rfl (Or.inl rfl)) (aR (aK (i:=9) eD.nd rfl (Or.inl rfl)) (aR (aK (i:=10) eD.nd rfl (Or.inl rfl)) (aR (aK (i:=11) eD.nd rfl (Or.inl rfl)) cF)))))))
    (aF (dB (i:=12) (g:=(gTup K 2 (cY (bB 0) (cY (bB 1) gNil)))) (tt:=(hW (tOp aCC (tVar 1) (tC .non)))) (te:=(tVar 0)) (NB:=["_law_letter","_law_house"]) (src:=[none,none]) (bP (by kernel_rfl)) rfl (tG rfl hE (aA (pv 11) aD)) ?g1 ?t1 ?e1 eD.nd rfl rfl rfl)
    (aF (aT (i:=13) eD.nd rfl (Or.inl rfl) (aN WA h2 aQ (aA (pv 12) (aA (pv 8) (aA (pv 9) (aA (pv 10) (aA (pv 11) (aA nK aD))))))))
    (aF (bZ (jG (fJ (aN IH h1 aQ (aA (aN HA h8 aQ (aA (pv 1) (aA (pv 7) (aA (pv 10) (aA (pv 11) (aA (pv 5) aD)))))) (aA (pv 13) aD))))) (aI (bA nK)) bS)
    (aI (bZ (jG (fJ (aN IH h1 aQ (aA (aN HA h8 aQ (aA (pv 1) (aA (pv 7) (aA (pv 10) (aA (pv 11) (aA (aV cD (pv 5) aJ) aD)))))) (aA (pv 13) aD))))) (aI (bA nK)) bS)))))))
   (aI (bA nK)))))),?_⟩
  case g1=>exact fun cl C s₃ H₃ fp=>(cM (n:=2) rfl (aR (aK (i:=0) iU rfl (Or.inl rfl) (Or.inr rfl)) (aR (aK (i:=1) iU rfl (Or.inl rfl) (Or.inr rfl)) cF)))
  case t1=>exact fun cl C s₃ H₃ fp=>dF (aX wF (pv 1) eI (aZ _))
  case e1=>exact fun cl C s₃ H₃ fp=>(pv 0)
  refine fun rx rd nx nrd nex=>?_
  have sN:Same H (upd (upd H rd (.own rx)) rx (.ins CI rd [])):=(aE (o:=.own rx) nrd).trans (aE (D:=rx) (o:=.ins CI rd []) (by rw[aH nex.symm];exact nx))
  have gR:=aB (H:=upd H rd (.own rx)) (a:=rx) (o:=.ins CI rd [])
  have S1:=hS.mono fun o u e=>sN _ _ e
  have t1:=tb.same sN
  generalize upd (upd H rd (.own rx)) rx _=H1 at *
  clear nx nrd nex hS tb sN
  refine⟨by show 0≤sizeLine;decide,fun Ak hA=>?_⟩
  have sA:=aE (o:=.lst []) hA
  have gA:=aB (H:=H1) (a:=Ak) (o:=.lst [])
  have S2:=S1.mono fun o u e=>sA _ _ e
  have t2:=t1.same sA
  have gR2:=sA _ _ gR
  generalize upd H1 Ak _=H2 at *
  clear S1 t1 hA sA gR
  refine⟨2,rfl,by decide,by decide,cR (n:=2) (lo:=0) (fun k σ Hc=>(∃x3 x4 x5,σ=[some (.ref a),some (.ref rx),some (.ref Ak),x3,x4,x5,none,none,none,none,none,none,none,none])∧SqF K Hc a (ns.map V.int)∧Tab Pt Hc∧Hc rx=some (.ins CI rd [])∧∃qs:List Addr,qs.length=k∧Hc Ak=some (.lst (qs.map V.ref))∧∀q∈qs,oW C Ak Hc q) ⟨⟨_,_,_,rfl⟩,S2,t2,gR2,[],rfl,gA,fun q hq=>(nomatch hq)⟩ ?_ ?_⟩
  ·rintro k σ Hc hk ⟨⟨x3,x4,x5,rfl⟩,Sc,tc,Rc,qs,ql,Ac,Qc⟩
   rw[Int.zero_add]
   refine⟨_,rfl,_,rfl,a,ns,k,rfl,Sc.seq,by lia,fun p H3 s3 hp0 hp3=>?_⟩
   refine⟨_,rfl,p,rfl,hp3,fun bt H4 hbt s4 hp4=>?_⟩
   have t4:=(tc.same s3).keepE s4 hp3
   have A4:=s4 _ _ (s3 _ _ Ac) (aG Ac hp0)
   refine⟨_,rfl,.inl ⟨rfl,_,SqL.of A4⟩,_,rfl,p,rfl,hp4,t4,fun t px oa fa ha sa n ts homes st H5 k5 hp5 t5 ca=>⟨_,rfl,by show 2≤sizeLine;decide,fun q hq=>?_⟩⟩
   have kc5:∀b o,Hc b=some o→NTb o→H5 b=some o:=fun b o e n=>k5 b o (s4 _ _ (s3 _ _ e) (aG e hp0)) n (aG e hp0)
   have A5:=kc5 _ _ Ac (fun ps z=>by cases z)
   have sq:=aE (o:=.tup [.ref t,.int (bt:Nat)]) hq
   refine⟨Ak,_,_,rfl,rfl,sq _ _ A5,by rw[List.length_map,ql];exact Nat.lt_of_lt_of_le hk (by decide),?_⟩
   have k6:kI Ak H5 (upd (upd H5 q (.tup [.ref t,.int (bt:Nat)])) Ak (.lst (qs.map V.ref++[.ref q]))):=fun b o e n m=>by rw[aH m];exact sq _ _ e
   have nq:q≠Ak:=(aG A5 hq).symm
   have kc6:kI Ak Hc (upd (upd H5 q (.tup [.ref t,.int (bt:Nat)])) Ak (.lst (qs.map V.ref++[.ref q]))):=fun b o e n m=>k6 b o (kc5 b o e n) n m
   have nA:∀ {b o},Hc b=some o→(∀xs,o≠.lst xs)→b≠Ak:=fun e n z=>by rw[z,Ac] at e;cases e;exact n _ rfl
   refine⟨⟨_,_,_,rfl⟩,Sc.mono fun o u e=>kc6 _ _ e (fun ps z=>by cases z) (nA e fun xs z=>by cases z),?_,kc6 _ _ Rc (fun ps z=>by cases z) (nA Rc fun xs z=>by cases z),qs++[q],by rw[List.length_append,ql];rfl,by rw[aB,List.map_append];rfl,fun q' hq'=>?_⟩
   ·exact(t5.same sq).putL (sq _ _ A5)
   ·rcases List.mem_append.mp hq' with z|z
    ·exact(Qc _ z).keep kc6
    ·rw[List.mem_singleton.mp z]
     exact⟨t,bt,px,oa,fa,ha,sa,n,ts,homes,st,by rw[aH nq];exact aB,nq,(ca.toK (fun z=>by rw[A4] at z;cases z) A5).keep k6⟩
  ·rintro σ Hc ⟨⟨x3,x4,x5,rfl⟩,Sc,tc,Rc,qs,ql,Ac,Qc⟩
   clear Sc tc S2 t2
   match qs,ql with
   |[q0,q1],_=>
   have Q0:=Qc q0 List.mem_cons_self
   have Q1:=Qc q1 (List.mem_cons_of_mem _ List.mem_cons_self)
   refine⟨_,rfl,_,rfl,_,rfl,Ak,_,rfl,SqL.of Ac,fun c hc=>?_⟩
   have ec:cutV ([q0,q1].map V.ref) none (some 1)=[.ref q0]:=rfl
   rw[ec]
   have sC:=aE (o:=.lst [.ref q0]) hc
   refine⟨Ak,c,_,_,rfl,rfl,sC _ _ Ac,aB,by show 3≤sizeLine;decide,fun r hr'=>?_⟩
   have sR:=aE (o:=.lst ([q0,q1].map V.ref++[.ref q0])) hr'
   have s1:=sC.trans sR
   have gr:=aB (H:=upd Hc c (.lst [.ref q0])) (a:=r) (o:=.lst ([q0,q1].map V.ref++[.ref q0]))
   generalize upd (upd Hc c _) r _=H3 at *
   have kX:∀ {Ha Hb:Hp},Same Ha Hb→kI Ak Ha Hb:=fun s b o e _ _=>s b o e
   have Q0:=Q0.keep (kX s1)
   have Q1:=Q1.keep (kX s1)
   have R3:=s1 _ _ Rc
   clear sC sR s1 hc hr' Qc Ac Rc ec
   refine⟨r,rfl,⟨_,SqL.of gr⟩,dN (K:=K) (xs:=[.ref q0,.ref q1,.ref q0]) (fun j σ Hd=>(∃x3 x4 x5 x6 x7 x8 x9 x10 x11 x12 x13,σ=[some (.ref a),some (.ref rx),some (.ref Ak),x3,x4,x5,x6,x7,x8,x9,x10,x11,x12,x13])∧Same H3 Hd) ⟨⟨_,_,_,_,_,_,_,_,_,_,_,rfl⟩,Same.refl _⟩ (fun j σ Hd _ z=>SqL.of (z.2 _ _ gr)) ?_ (fun σ Hd _=>q Hd)⟩
   rintro j x σ Hd hx ⟨⟨y3,y4,y5,y6,y7,y8,y9,y10,y11,y12,y13,rfl⟩,sd⟩
   obtain⟨qq,rfl,QQ⟩:∃q,x=.ref q∧oW C Ak H3 q:=by
    match j,hx with
    |0,hx=>cases hx;exact⟨q0,rfl,Q0⟩
    |1,hx=>cases hx;exact⟨q1,rfl,Q1⟩
    |2,hx=>cases hx;exact⟨q0,rfl,Q0⟩
    |j+3,hx=>cases hx
   clear hx
   obtain⟨t,bt,px,oa,fa,ha,sa,n,ts,homes,st,eq,_,ca⟩:=QQ.keep (kX sd)
   have Rd:=sd _ _ R3
   have LO:=ca.sd.let ca.le
   refine⟨qq,_,rfl,SqT.of eq,rfl,_,_,rfl,_,_,rfl,rfl,?_⟩
   refine⟨_,rfl,t,_,rfl,SqT.of ca.tu,rfl,_,_,rfl,_,_,rfl,_,_,rfl,_,_,rfl,_,_,rfl,rfl,?_⟩
   refine⟨_,rfl,sa,_,rfl,SqT.of ca.se,fun D hD=>?_⟩
   refine nZ (K:=K) (a:=sa) (xs:=st.map oV) (fun i ys σ H3=>(∃u v,σ=[u,v])∧ys=NV (unw st i)∧Same Hd H3∧H3 D=some (.lst ys)) ⟨⟨_,_,rfl⟩,rfl,aE hD,aB⟩ (fun i ys σ H3 _ z=>SqT.of (z.2.2.1 _ _ ca.se)) ?_ ?_
   ·rintro i x t ys σ H3 Kt Kf hx ⟨⟨u,v,rfl⟩,rfl,sm,hD3⟩ ht kt kf
    obtain⟨hi,rfl⟩:=uZ hx
    have le:=ca.le
    have st':=aE (o:=.tup [.int (i:Int),oV (st.getD i none)]) ht
    refine⟨_,_,rfl,SqT.of aB,rfl,_,_,rfl,_,_,rfl,rfl,?_⟩
    refine⟨_,rfl,rfl,_,rfl,?_⟩
    rw[xR]
    refine ite2 (fun e=>?_) (fun e=>?_)
    ·refine⟨_,rfl,kt _ _ _ (st' _ _ hD3) (by rw[bD];exact Nat.lt_of_le_of_lt pV (Nat.lt_of_lt_of_le (show i<17 by lia) (by decide))) ⟨⟨_,_,rfl⟩,?_,bE (sm.trans st') hD,aB⟩⟩
     rw[kG,if_pos e,eO]
    ·refine kf _ _ ⟨⟨_,_,rfl⟩,?_,sm.trans st',st' _ _ hD3⟩
     rw[kG,if_neg e,List.append_nil]
   ·rintro ys σ H4 ⟨_,rfl,s4,hD4⟩
    rw[List.length_map] at hD4
    have c4:=ca.keep (kX s4)
    refine⟨_,rfl,_,rfl,_,rfl,_,rfl,_,rfl,D,oa,fa,ha,sa,n,ts,_,_,homes,st,rfl,hD4,ca.net.fine,c4.out,c4.oa,c4.far,c4.fa,c4.he,c4.se,LO,ca.sd,fun du H5 s5 hdu=>?_⟩
    have c5:=c4.keep (kX s5)
    have s45:=s4.trans s5
    refine⟨_,rfl,_,rfl,_,rfl,_,rfl,_,rfl,_,rx,rd,px,ha,sa,_,n,ts,homes,st,rfl,s45 _ _ Rd,c5.net,c5.he,c5.se,LO,fun to H6 s6 hto=>?_⟩
    refine⟨_,rfl,to,du,_,rfl,hto,s6 _ _ hdu,by unfold rP;rw[jS,List.length_replicate];exact ca.le,fun H7 s7=>⟨_,rfl,iteF ?_⟩⟩
    have s57:=s6.trans s7
    have c7:=c5.keep (kX s57)
    have s47:=s45.trans s57
    refine⟨_,rfl,_,rfl,_,rfl,_,rfl,_,rfl,_,_,rfl,rfl,_,rx,rd,px,ha,sa,_,n,ts,homes,st,rfl,s47 _ _ Rd,c7.net,c7.he,c7.se,LO,fun to2 H8 s8 hto2=>?_⟩
    exact⟨_,rfl,to2,du,_,rfl,hto2,s8 _ _ (s57 _ _ hdu),by unfold rP;rw[jS,List.length_replicate];exact ca.le,fun H9 s9=>⟨_,rfl,iteF ⟨⟨_,_,_,_,_,_,_,_,_,_,_,rfl⟩,sd.trans (s47.trans (s8.trans s9))⟩⟩⟩
end
end K12
namespace K12
open PySem L2 NetM
def FD(K:PySem.W.Frag)(n:Str)(st:Stmt):Prop:=∃ (f:Addr) (oc:Value) (od an:Option Addr) (sl:Array (Option Value)) (kV dc pm cd ct:Value),PySem.W.nsIn K mainGlobals n=some (some (.ref f))∧K.lookup f=some ⟨oc,od,.func (PySem.W.fnOf n n (cS st) (cB st) (aL st) .none kV dc pm an cd ct),sl⟩∧PySem.W.codeIn K cd n=true∧PySem.W.keepIn K (.ref f)=true
def FC(K:PySem.W.Frag)(n:Str)(st:Stmt)(c:Addr):Prop:=∃ (f:Addr) (oc:Value) (od an:Option Addr) (sl:Array (Option Value)) (kV dc pm ct:Value),PySem.W.nsIn K mainGlobals n=some (some (.ref f))∧K.lookup f=some ⟨oc,od,.func (PySem.W.fnOf n n (cS st) (cB st) (aL st) .none kV dc pm an (.ref c) ct),sl⟩∧PySem.W.codeIn K (.ref c) n=true∧PySem.W.keepIn K (.ref f)=true
def MD(K:PySem.W.Frag)(C:Addr)(n q:Str)(st:Stmt):Prop:=∃ (f:Addr) (oc:Value) (od an:Option Addr) (sl:Array (Option Value)) (kV dc pm cd ct:Value),PySem.W.findIn K (.ref C) n=some (some (.ref f))∧PySem.W.isFn K (.ref f)=true∧K.lookup f=some ⟨oc,od,.func (PySem.W.fnOf n q (cS st) (cB st) (aL st) .none kV dc pm an cd ct),sl⟩∧PySem.W.codeIn K cd q=true∧PySem.W.keepIn K (.ref f)=true
section
variable {P:Program} {w:World} {K:PySem.W.Frag} {mg:Str→Option Value} {base h:Heap} {n q:Str} {st:Stmt} {f c C:Addr} {oc kV dc pm cd ct:Value} {od an:Option Addr} {sl:Array (Option Value)} {CX:CXT} {k:Nat} {ps:List Str} {sp:Sp}
theorem FD.mk(a:PySem.W.nsIn K mainGlobals n=some (some (.ref f)))(l:K.lookup f=some ⟨oc,od,.func (PySem.W.fnOf n n (cS st) (cB st) (aL st) .none kV dc pm an cd ct),sl⟩)(d:PySem.W.codeIn K cd n=true)(k:PySem.W.keepIn K (.ref f)=true):FD K n st:=⟨f,oc,od,an,sl,kV,dc,pm,cd,ct,a,l,d,k⟩
theorem FC.mk(a:PySem.W.nsIn K mainGlobals n=some (some (.ref f)))(l:K.lookup f=some ⟨oc,od,.func (PySem.W.fnOf n n (cS st) (cB st) (aL st) .none kV dc pm an (.ref c) ct),sl⟩)(d:PySem.W.codeIn K (.ref c) n=true)(k:PySem.W.keepIn K (.ref f)=true):FC K n st c:=⟨f,oc,od,an,sl,kV,dc,pm,ct,a,l,d,k⟩
theorem MD.mk(a:PySem.W.findIn K (.ref C) n=some (some (.ref f)))(i:PySem.W.isFn K (.ref f)=true)(l:K.lookup f=some ⟨oc,od,.func (PySem.W.fnOf n q (cS st) (cB st) (aL st) .none kV dc pm an cd ct),sl⟩)(d:PySem.W.codeIn K cd q=true)(k:PySem.W.keepIn K (.ref f)=true):MD K C n q st:=⟨f,oc,od,an,sl,kV,dc,pm,cd,ct,a,i,l,d,k⟩
def BD(n q:Str)(st:Stmt)(ps:List Str):Prop:=∀ (kV doc pm:Value) (an:Option Addr) (cdv ct:Value) (us:List Value),us.length=ps.length→bindArgs (PySem.W.fnOf n q (cS st) (cB st) (aL st) .none kV doc pm an cdv ct) ⟨us,[]⟩=pure (ps.zip us)
theorem FD.cal(X:K.In h)(G:h.Ns mainGlobals mg)(D:FD K n st)(b:BD n n st ps)(o:∀ {f fd},Fun K n n st f fd→FnOk P w K mg base CX k f fd ps sp):Cal P w K mg base CX k n ps sp:=
 let ⟨f,_,_,_,_,_,_,_,_,_,a,l,d,kp⟩:=D
 have F:=nU (x:=n) (qual:=n) (st:=st) l d kp
 ⟨⟨f,_,PySem.W.mg_of X G a,kp,F.binds b,o F⟩⟩
theorem FC.cal(X:K.In h)(G:h.Ns mainGlobals mg)(D:FC K n st c)(b:BD n n st ps)(o:∀ {f fd},FunC K n n st f fd c→FnOk P w K mg base CX k f fd ps sp):Cal P w K mg base CX k n ps sp:=
 let ⟨f,_,_,_,_,_,_,_,_,a,l,d,kp⟩:=D
 have F:=aCV (x:=n) (qual:=n) (st:=st) l d kp
 ⟨⟨f,_,PySem.W.mg_of X G a,kp,F.fun.binds b,o F⟩⟩
theorem MD.cal(D:MD K C n q st)(b:BD n q st ps)(o:∀ {f fd},Fun K n q st f fd→FnOk P w K mg base CX k f fd ps sp):MCal P w K mg base CX k C n ps sp:=
 let ⟨f,_,_,_,_,_,_,_,_,_,a,i,l,d,kp⟩:=D
 have F:=nU (x:=n) (qual:=q) (st:=st) l d kp
 ⟨⟨f,_,⟨a,i,kp⟩,F.binds b,o F⟩⟩
end
theorem aEz{l:PySem.W.OpenLaw}{w:World}{K:PySem.W.Frag}{h:Heap}{mg:Str→Option Value}{fa:Addr}(X:K.In h)(G:h.Ns mainGlobals mg)(hfa:mg "law"=some (.ref fa)){C cO Pt x_InTurn:Addr}{t_FEWEST_HOUSES t_MOST_HOUSES t_MOST_TIES_OUT:Tok}(aC:PySem.W.nsIn K mainGlobals "Net"=some (some (.ref C)))(a_InTurn:PySem.W.nsIn K mainGlobals "InTurn"=some (some (.ref x_InTurn)))(h_whole:FD K "is_whole" tX)(h_within:FD K "is_whole_within" pL)(h_house:FD K "is_house" tY)(h_row:FD K "is_row" sRow)(h_unl:FD K "are_unlike_houses" sUnl)(h_tie:FD K "is_tie" sTie)(h_cties:FD K "check_ties" uE)(h_bal:FD K "check_balance" sBal)(h_outs:FC K "houses_out" oG cO)(h_dist:FD K "distances_from" zG)(h_reach:FD K "check_reached" uF)(h_uw:FD K "under_way" sUW)(h_ff:FD K "first_free" sFF)(h_ht:FD K "hand_in_turn" sHT)(h_he:FD K "hand_eagerly" sHE)(h_hand:FD K "hand" zZ)(h_pot:FD K "_law_pot" sPot)(h_take:FD K "_law_take" zK)(h_beat:FD K "_law_beat" zL)(h_ring:FD K "_law_ring" zN)(h_some:FD K "_law_some_pairs" zO)(h_box:FD K "_law_box" sBox)(h_words:FD K "_law_words" lI)(h_one:FD K "_law_one_way" sOne)(h_ren:FD K "_law_renamed" sRen)(h_net:FD K "_law_net" sNet)(h_louts:FD K "_law_outs" uW)(h_lfar:FD K "_law_far" zU)(h_start:FD K "_law_start" uY)(h_case:FD K "_law_case" aAa)(h_free:FD K "_law_free" aAb)(h_goodL:FD K "_law_good" vF)(h_walk:FD K "_law_walk" aAc)(h_ih:FD K "_law_is_handing" sIH)(h_law:FD K "law" sLaw)(m_init:MD K C "__init__" "Net.__init__" rH)(m_check:MD K C "check_house" "Net.check_house" uB)(m_far:MD K C "far" "Net.far" sFar)(m_out:MD K C "out" "Net.out" sOut)(m_good:MD K C "good" "Net.good" zD)(pg:PySem.W.plainGet K C Str.empty=true)(q_hd:PySem.W.hasDictIn K C=true)(po:PySem.W.plainOver K C=true)(sa:PySem.W.findIn K (.ref C) "__setattr__"=some (some (.builtin "object.__setattr__")))(mk:PySem.W.makesIn K C=true)(kc:PySem.W.keepIn K (.ref C)=true)(nH:PySem.W.findIn K (.ref C) "house_count"=some none)(nT:PySem.W.findIn K (.ref C) "tie_list"=some none)(nO:PySem.W.findIn K (.ref C) "out_lists"=some none)(nD:PySem.W.findIn K (.ref C) "distances"=some none)(z_isinstance:PySem.W.nsIn K mainGlobals "isinstance"=some none)(z_int:PySem.W.nsIn K mainGlobals "int"=some none)(z_bool:PySem.W.nsIn K mainGlobals "bool"=some none)(z_tuple:PySem.W.nsIn K mainGlobals "tuple"=some none)(z_list:PySem.W.nsIn K mainGlobals "list"=some none)(z_str:PySem.W.nsIn K mainGlobals "str"=some none)(z_set:PySem.W.nsIn K mainGlobals "set"=some none)(z_len:PySem.W.nsIn K mainGlobals "len"=some none)(z_range:PySem.W.nsIn K mainGlobals "range"=some none)(z_sorted:PySem.W.nsIn K mainGlobals "sorted"=some none)(z_any:PySem.W.nsIn K mainGlobals "any"=some none)(z_max:PySem.W.nsIn K mainGlobals "max"=some none)(z_min:PySem.W.nsIn K mainGlobals "min"=some none)(z_ValueError:PySem.W.nsIn K mainGlobals "ValueError"=some none)(z_all:PySem.W.nsIn K mainGlobals "all"=some none)(z_abs:PySem.W.nsIn K mainGlobals "abs"=some none)(z_divmod:PySem.W.nsIn K mainGlobals "divmod"=some none)(z_dict:PySem.W.nsIn K mainGlobals "dict"=some none)(z_zip:PySem.W.nsIn K mainGlobals "zip"=some none)(z_repr:PySem.W.nsIn K mainGlobals "repr"=some none)(z_enumerate:PySem.W.nsIn K mainGlobals "enumerate"=some none)(g_FEWEST_HOUSES:PySem.W.nsIn K mainGlobals "FEWEST_HOUSES"=some (some (.int 2 t_FEWEST_HOUSES)))(g_MOST_HOUSES:PySem.W.nsIn K mainGlobals "MOST_HOUSES"=some (some (.int 32 t_MOST_HOUSES)))(g_MOST_TIES_OUT:PySem.W.nsIn K mainGlobals "MOST_TIES_OUT"=some (some (.int 8 t_MOST_TIES_OUT)))(o_m:MD K x_InTurn "order" "Rule.order" zY)(i_pg:PySem.W.plainGet K x_InTurn Str.empty=true)(i_hd:PySem.W.hasDictIn K x_InTurn=true)(i_po:PySem.W.plainOver K x_InTurn=true)(i_sa:PySem.W.findIn K (.ref x_InTurn) "__setattr__"=some (some (.builtin "object.__setattr__")))(i_mk:PySem.W.makesIn K x_InTurn=true)(i_in:PySem.W.findIn K (.ref x_InTurn) "__init__"=some (some (.builtin "object.__init__")))(i_kc:PySem.W.keepIn K (.ref x_InTurn)=true)(i_ha:PySem.W.findIn K (.ref x_InTurn) "__class__"=some (some (.builtin "object.__class__")))(i_hn:PySem.W.specialIn K (.builtin "object.__class__") "__get__"=some (some (.builtin "getset_descriptor.__get__")))(i_tk:PySem.W.takesIn K (.builtin "object.__class__")=some true)(i_mr:PySem.W.mroIn K x_InTurn (.type "object")=some true)(q_outs:PySem.W.codeHdIn K cO Pt=true):
  ∃fd:FuncData,(∀ (s:Shared) (v:Value),BindsTo s fd ⟨[v],[]⟩ [("_law_script",v)])∧∀base:Heap,K.In base→base.Ns mainGlobals mg→BmOk mg base→FnOk l.prog w K mg base CX0 10 fa fd ["_law_script"] (rQ K Pt):=by
 obtain⟨f_law,oc,od,an,sl,kV,dc,pm,cd,ct,a_law,l_law,d_law,k_law⟩:=h_law
 have e:=hfa.symm.trans (PySem.W.mg_of X G a_law)
 cases e
 have F_law:=nU (x:="law") (qual:="law") (st:=sLaw) l_law d_law k_law
 obtain⟨f_i,oci,odi,ani,sli,kVi,dci,pmi,cdi,cti,a_i,i_i,l_i,d_i,k_i⟩:=m_init
 have F_m_init:=nU (x:="__init__") (qual:="Net.__init__") (st:=rH) l_i d_i k_i
 have b_m_init:=F_m_init.binds (ps:=["self","many","ties"]) fun _ _ _ _ _ _ us hl=>match us,hl with|[_,_,_],_=>rfl
 have MK:Mk K C f_i:=⟨mk,a_i,i_i,kc⟩
 have B:Bl mg:=⟨PySem.W.mg_none_of X G z_isinstance,PySem.W.mg_none_of X G z_int,PySem.W.mg_none_of X G z_bool,PySem.W.mg_none_of X G z_tuple,PySem.W.mg_none_of X G z_list,PySem.W.mg_none_of X G z_str,PySem.W.mg_none_of X G z_set,PySem.W.mg_none_of X G z_len,PySem.W.mg_none_of X G z_range,PySem.W.mg_none_of X G z_sorted,PySem.W.mg_none_of X G z_any,PySem.W.mg_none_of X G z_max,PySem.W.mg_none_of X G z_min,PySem.W.mg_none_of X G z_ValueError,PySem.W.mg_none_of X G z_all⟩
 have T:NT K mg C:=⟨⟨pg,q_hd,po,sa⟩,nH,nT,nO,nD,PySem.W.mg_of X G aC⟩
 have B2:Bl2 mg:=⟨PySem.W.mg_none_of X G z_abs,PySem.W.mg_none_of X G z_divmod,PySem.W.mg_none_of X G z_dict,PySem.W.mg_none_of X G z_zip,PySem.W.mg_none_of X G z_repr⟩
 have RT:RulT K mg x_InTurn:=⟨⟨i_pg,i_hd,i_po,i_sa⟩,⟨i_mk,i_in,i_kc⟩,PySem.W.mg_of X G a_InTurn,i_ha,i_hn,i_tk,i_mr⟩
 refine⟨PySem.W.fnOf "law" "law" (cS sLaw) (cB sLaw) (aL sLaw) .none kV dc pm an cd ct,fun s v=>.of_eq rfl,fun base kb nb hb=>?_⟩
 have C_whole:Cal l.prog w K mg base CX0 1 "is_whole" ["thing"] (pM K):=FD.cal X G h_whole (fun _ _ _ _ _ _ us hl=>match us,hl with|[_],_=>rfl) fun F_whole=>aBY F_whole B
 have C_within:Cal l.prog w K mg base CX0 2 "is_whole_within" ["thing","least","most"] (kA K):=FD.cal X G h_within (fun _ _ _ _ _ _ us hl=>match us,hl with|[_,_,_],_=>rfl) fun F_within=>aBd F_within C_whole
 have C_house:Cal l.prog w K mg base CX0 3 "is_house" ["many","thing"] (mD K):=FD.cal X G h_house (fun _ _ _ _ _ _ us hl=>match us,hl with|[_,_],_=>rfl) fun F_house=>aB0 F_house C_within
 have C_row:Cal l.prog w K mg base CX0 1 "is_row" ["thing","length"] (zC K):=FD.cal X G h_row (fun _ _ _ _ _ _ us hl=>match us,hl with|[_,_],_=>rfl) fun F_row=>aD9 F_row B
 have C_unl:Cal l.prog w K mg base CX0 4 "are_unlike_houses" ["many","one","other"] zE:=FD.cal X G h_unl (fun _ _ _ _ _ _ us hl=>match us,hl with|[_,_,_],_=>rfl) fun F_unl=>aEa F_unl C_house
 have C_tie:Cal l.prog w K mg base CX0 5 "is_tie" ["many","thing"] zF:=FD.cal X G h_tie (fun _ _ _ _ _ _ us hl=>match us,hl with|[_,_],_=>rfl) fun F_tie=>aEb F_tie C_row C_unl
 have C_cties:Cal l.prog w K mg base CX0 6 "check_ties" ["many","ties"] iI:=FD.cal X G h_cties (fun _ _ _ _ _ _ us hl=>match us,hl with|[_,_],_=>rfl) fun F_cties=>aB2 F_cties B ⟨_,PySem.W.mg_of X G g_FEWEST_HOUSES⟩ ⟨_,PySem.W.mg_of X G g_MOST_HOUSES⟩ C_within C_tie
 have C_bal:Cal l.prog w K mg base CX0 1 "check_balance" ["many","ties"] iI:=FD.cal X G h_bal (fun _ _ _ _ _ _ us hl=>match us,hl with|[_,_],_=>rfl) fun F_bal=>aEc F_bal B ⟨_,PySem.W.mg_of X G g_MOST_TIES_OUT⟩
 have C_outs:Cal l.prog w K mg base CX0 1 "houses_out" ["many","ties","house"] (oI Pt):=FC.cal X G h_outs (fun _ _ _ _ _ _ us hl=>match us,hl with|[_,_,_],_=>rfl) fun F_outs=>aDf F_outs B kb hb q_outs
 have C_dist:Cal l.prog w K mg base CX0 1 "distances_from" ["out_lists","start"] oK:=FD.cal X G h_dist (fun _ _ _ _ _ _ us hl=>match us,hl with|[_,_],_=>rfl) fun F_dist=>aDg F_dist B
 have C_reach:Cal l.prog w K mg base CX0 1 "check_reached" ["distances"] pN:=FD.cal X G h_reach (fun _ _ _ _ _ _ us hl=>match us,hl with|[_],_=>rfl) fun F_reach=>aB3 F_reach B
 have G_init:FnOk l.prog w K mg base CX0 7 f_i _ ["self","many","ties"] (uH C Pt):=aDi F_m_init T B C_cties C_bal C_outs C_dist C_reach
 have M_check:MCal l.prog w K mg base CX0 4 C "check_house" ["self","thing"] (kC C):=MD.cal m_check (fun _ _ _ _ _ _ us hl=>match us,hl with|[_,_],_=>rfl) fun F_m_check=>aBg F_m_check T C_house
 have M_far:MCal l.prog w K mg base CX0 5 C "far" ["self","one","other"] (uD C):=MD.cal m_far (fun _ _ _ _ _ _ us hl=>match us,hl with|[_,_,_],_=>rfl) fun F_m_far=>aDb F_m_far T M_check
 have M_out:MCal l.prog w K mg base CX0 5 C "out" ["self","house"] (uC C):=MD.cal m_out (fun _ _ _ _ _ _ us hl=>match us,hl with|[_,_],_=>rfl) fun F_m_out=>aDa F_m_out T B M_check
 have M_good:MCal l.prog w K mg base CX0 6 C "good" ["self","house","home"] (pW C):=MD.cal m_good (fun _ _ _ _ _ _ us hl=>match us,hl with|[_,_,_],_=>rfl) fun F_m_good=>aCj F_m_good T M_far
 have C_uw:Cal l.prog w K mg base CX0 1 "under_way" ["stand"] spUW:=FD.cal X G h_uw (fun _ _ _ _ _ _ us hl=>match us,hl with|[_],_=>rfl) fun F_uw=>aE7 F_uw (PySem.W.mg_none_of X G z_enumerate)
 have C_ff:Cal l.prog w K mg base CX0 1 "first_free" ["others","stand","goes","letter"] spFF:=FD.cal X G h_ff (fun _ _ _ _ _ _ us hl=>match us,hl with|[_,_,_,_],_=>rfl) fun F_ff=>aE8 F_ff B
 have C_ht:Cal l.prog w K mg base CX0 7 "hand_in_turn" ["net","homes","stand","letters","goes"] (spHT C):=FD.cal X G h_ht (fun _ _ _ _ _ _ us hl=>match us,hl with|[_,_,_,_,_],_=>rfl) fun F_ht=>aFa F_ht T M_good M_out C_ff
 have C_he:Cal l.prog w K mg base CX0 1 "hand_eagerly" ["net","homes","stand","letters","goes"] spHE:=FD.cal X G h_he (fun _ _ _ _ _ _ us hl=>match us,hl with|[_,_,_,_,_],_=>rfl) fun F_he=>aFb
 have C_hand:Cal l.prog w K mg base CX0 8 "hand" ["rule","net","homes","stand","beat"] (vB C x_InTurn):=FD.cal X G h_hand (fun _ _ _ _ _ _ us hl=>match us,hl with|[_,_,_,_,_],_=>rfl) fun F_hand=>aDD F_hand B RT (MD.cal o_m (fun _ _ _ _ _ _ us hl=>match us,hl with|[_,_,_,_,_],_=>rfl) fun F=>aDC F C_uw) C_ht C_he
 have C_pot:Cal l.prog w K mg base CX0 1 "_law_pot" ["_law_script","_law_k"] (zM K):=FD.cal X G h_pot (fun _ _ _ _ _ _ us hl=>match us,hl with|[_,_],_=>rfl) fun F_pot=>aEj F_pot B B2
 have C_take:Cal l.prog w K mg base CX0 1 "_law_take" ["_law_pot_here","_law_many"] eL:=FD.cal X G h_take (fun _ _ _ _ _ _ us hl=>match us,hl with|[_,_],_=>rfl) fun F_take=>aDo F_take B2
 have C_beat:Cal l.prog w K mg base CX0 2 "_law_beat" ["_law_pot_here"] uM:=FD.cal X G h_beat (fun _ _ _ _ _ _ us hl=>match us,hl with|[_],_=>rfl) fun F_beat=>aDp F_beat C_take
 have C_ring:Cal l.prog w K mg base CX0 1 "_law_ring" ["_law_many"] oO:=FD.cal X G h_ring (fun _ _ _ _ _ _ us hl=>match us,hl with|[_],_=>rfl) fun F_ring=>aDt F_ring B
 have C_some:Cal l.prog w K mg base CX0 2 "_law_some_pairs" ["_law_pot_here","_law_many","_law_more"] uR:=FD.cal X G h_some (fun _ _ _ _ _ _ us hl=>match us,hl with|[_,_,_],_=>rfl) fun F_some=>aDu F_some B C_take
 have C_box:Cal l.prog w K mg base CX0 2 "_law_box" ["_law_pot_here"] mH:=FD.cal X G h_box (fun _ _ _ _ _ _ us hl=>match us,hl with|[_],_=>rfl) fun F_box=>aEn F_box B C_take
 have C_words:Cal l.prog w K mg base CX0 2 "_law_words" ["_law_pot_here"] mH:=FD.cal X G h_words (fun _ _ _ _ _ _ us hl=>match us,hl with|[_],_=>rfl) fun F_words=>aCb F_words B C_take
 have C_one:Cal l.prog w K mg base CX0 2 "_law_one_way" ["_law_pot_here","_law_many"] zT:=FD.cal X G h_one (fun _ _ _ _ _ _ us hl=>match us,hl with|[_,_],_=>rfl) fun F_one=>aEp F_one B B2 C_take C_ring
 have C_ren:Cal l.prog w K mg base CX0 2 "_law_renamed" ["_law_pot_here","_law_many","_law_ties"] rO:=FD.cal X G h_ren (fun _ _ _ _ _ _ us hl=>match us,hl with|[_,_,_],_=>rfl) fun F_ren=>aEo F_ren B C_take
 have C_net:Cal l.prog w K mg base CX0 3 "_law_net" ["_law_pot_here"] zX:=FD.cal X G h_net (fun _ _ _ _ _ _ us hl=>match us,hl with|[_],_=>rfl) fun F_net=>aEr F_net B C_take C_ring C_box C_words C_some C_one C_ren
 have C_louts:Cal l.prog w K mg base CX0 1 "_law_outs" ["_law_many","_law_ties"] pT:=FD.cal X G h_louts (fun _ _ _ _ _ _ us hl=>match us,hl with|[_,_],_=>rfl) fun F_louts=>aCh F_louts B B2
 have C_lfar:Cal l.prog w K mg base CX0 1 "_law_far" ["_law_outs_here"] uV:=FD.cal X G h_lfar (fun _ _ _ _ _ _ us hl=>match us,hl with|[_],_=>rfl) fun F_lfar=>aDw F_lfar B
 have C_start:Cal l.prog w K mg base CX0 2 "_law_start" ["_law_pot_here","_law_outs_here"] pU:=FD.cal X G h_start (fun _ _ _ _ _ _ us hl=>match us,hl with|[_,_],_=>rfl) fun F_start=>aCi F_start B C_take
 have C_case:Cal l.prog w K mg base CX0 9 "_law_case" ["_law_pot_here"] (vD C Pt):=FD.cal X G h_case (fun _ _ _ _ _ _ us hl=>match us,hl with|[_],_=>rfl) fun F_case=>aDE F_case T MK b_m_init G_init C_net C_louts C_start C_lfar
 have C_free:Cal l.prog w K mg base CX0 1 "_law_free" ["_law_house","_law_some","_law_taken"] vH:=FD.cal X G h_free (fun _ _ _ _ _ _ us hl=>match us,hl with|[_,_,_],_=>rfl) fun F_free=>aDK F_free
 have C_goodL:Cal l.prog w K mg base CX0 1 "_law_good" ["_law_outs_here","_law_far_here","_law_house","_law_home"] pX:=FD.cal X G h_goodL (fun _ _ _ _ _ _ us hl=>match us,hl with|[_,_,_,_],_=>rfl) fun F_goodL=>aCk F_goodL
 have C_walk:Cal l.prog w K mg base CX0 2 "_law_walk" ["_law_order","_law_outs_here","_law_far_here","_law_homes","_law_stand","_law_at_once"] vI:=FD.cal X G h_walk (fun _ _ _ _ _ _ us hl=>match us,hl with|[_,_,_,_,_,_],_=>rfl) fun F_walk=>aDM F_walk B C_free C_goodL
 have C_ih:Cal l.prog w K mg base CX0 1 "_law_is_handing" ["_law_told","_law_due"] spIH:=FD.cal X G h_ih (fun _ _ _ _ _ _ us hl=>match us,hl with|[_,_],_=>rfl) fun F_ih=>aFd F_ih B
 exact aEy F_law B (PySem.W.mg_none_of X G z_enumerate) RT C_pot C_beat C_case C_hand C_walk C_ih
theorem aFe{K:PySem.W.Frag}{P:Addr}(h:((List.range 2000).any fun c=>PySem.W.codeHdIn K c P)=true):∃c,PySem.W.codeHdIn K c P=true:=
 let ⟨c,_,e⟩:=List.any_eq_true.mp h;⟨c,e⟩
theorem aEA{K:PySem.W.Frag}{H:Hp}{a:Addr}{xs:List V}{ts:List Addr}(hO:rG ts H)(h:SqL K H a xs):SqF K H a xs:=by
 rcases h with h|h
 ·rcases h with h|⟨o,h⟩
  ·rcases hO.2 a with z|⟨_,z⟩|⟨o,ys,z⟩ <;> · rw[h] at z;cases z
  ·exact .inl ⟨o,h⟩
 ·exact .inr fun H'=>.inr h
theorem walk{l:PySem.W.OpenLaw}{q:Program}{loose:List Str}{XP:(Str→Option Value)→Heap→Prop}{YP:World→Heap→Prop}{d:DefRec}{K:Params→PySem.W.Frag}{Pt:Addr}(hn:l.most=some 63)(hdf:d.params.defaults=[])(hY:∀ (w:World) (h:Heap),YP w h→(K w.params).In h)(hT:∀ (w:World) (h:Heap),YP w h→∀P∈[Pt],h.get? P=some (PySem.W.tabObj #[]))(hcd:∀ (w:World),((List.range 2000).any fun c=>PySem.W.codeHdIn (K w.params) c Pt)=true)(hkt:∀ (w:World),(K w.params).lookup Pt=none)(F:∀ (w:World) (mg:Str→Option Value) (fa:Addr) (h:Heap),(K w.params).In h→h.Ns mainGlobals mg→mg d.name=some (.ref fa)→
   ∃fd:FuncData,(∀ (s:Shared) (u:Value),BindsTo s fd ⟨[u],[]⟩ [("_law_script",u)])∧∀base:Heap,(K w.params).In base→base.Ns mainGlobals mg→BmOk mg base→FnOk l.prog w (K w.params) mg base CX0 10 fa fd ["_law_script"] (rQ (K w.params) Pt)):
  PySem.W.WalkO q loose XP YP l.row.toRowW d [] (fun f vs=>PySem.call f vs):=
 aBP (n:=63) (k:=10) (x:="_law_script") (ts:=[Pt]) (K:=K) (CX:=fun _=>CX0) (sp:=fun w=>(rQ (K w.params) Pt)) hn (by decide) hdf ⟨rfl,by decide,by decide,rfl⟩ hY hT
  (fun w P hP=>by rw[List.mem_singleton.mp hP];exact aFe (hcd w)) (fun w P hP=>by rw[List.mem_singleton.mp hP];exact hkt w) F
  (fun w H a ns hl hO hS=>⟨a,ns,rfl,aEA hO hS,hl,.inl (hO.1 _ (by simp)),fun _=>rfl⟩) fun _ _ _ _ _ z=>z
end K12
open PySem PySem.W PyProof.Rows
namespace PySem.W.Fast
theorem tw11609130485183590396:True:=⟨⟩
theorem tw18391303832435981759:True:=⟨⟩
theorem tw3388752012871586301:True:=⟨⟩
theorem tw11851332828652947453:True:=⟨⟩
theorem tw9073148082702086961:True:=⟨⟩
theorem tw16256151808457905715:True:=⟨⟩
theorem tw2431234008755261028:True:=⟨⟩
theorem tw15914414711155531867:True:=⟨⟩
theorem tw8373038021263082834:True:=⟨⟩
theorem tw5152797659591895954:True:=⟨⟩
theorem tw10118851104501174736:True:=⟨⟩
theorem tw2287549550407309655:True:=⟨⟩
theorem tw2550722480803289581:True:=⟨⟩
theorem tw6617358658959248608:True:=⟨⟩
theorem tw10583261225415608324:True:=⟨⟩
theorem tw1114371623124283972:True:=⟨⟩
theorem tw10087186702248759642:True:=⟨⟩
theorem tw13275053970202210735:True:=⟨⟩
theorem tw18229363442400261504:True:=⟨⟩
theorem tw15285261569894140992:True:=⟨⟩
theorem tw12313509990450152208:True:=⟨⟩
theorem tw16912062097987163562:True:=⟨⟩
theorem tw14975171457089593011:True:=⟨⟩
theorem tw3787273210569463630:True:=⟨⟩
theorem tw3516002125316702730:True:=⟨⟩
theorem tw3149400908053978437:True:=⟨⟩
theorem tw3678195790441088203:True:=⟨⟩
theorem tw1266374975808376326:True:=⟨⟩
theorem tw8592651362957097298:True:=⟨⟩
theorem tw14340915116465327223:True:=⟨⟩
theorem tw7994358636215483396:True:=⟨⟩
theorem tw12697735624808584638:True:=⟨⟩
theorem tw13224424989226233125:True:=⟨⟩
theorem tw4454521523624997946:True:=⟨⟩
theorem tw11060802615834516897:True:=⟨⟩
theorem tw12192633302517219578:True:=⟨⟩
theorem tw17551195214294079046:True:=⟨⟩
theorem tw12218273188242053230:True:=⟨⟩
theorem tw11070515688107602304:True:=⟨⟩
theorem tw6252232130655082214:True:=⟨⟩
theorem tw824740733738346062:True:=⟨⟩
theorem tw11626385079683980190:True:=⟨⟩
theorem tw15016196496953979175:True:=⟨⟩
theorem tw15543490767548759545:True:=⟨⟩
theorem tw12232492935040741111:True:=⟨⟩
theorem tw7696924455433187918:True:=⟨⟩
theorem tw12069246903357292738:True:=⟨⟩
theorem tw16735579740719572236:True:=⟨⟩
theorem tw3826103496630589711:True:=⟨⟩
theorem tw17741207154221400693:True:=⟨⟩
theorem tw14301325428444531135:True:=⟨⟩
theorem tw6048561043153168171:True:=⟨⟩
theorem tw5581208361635254842:True:=⟨⟩
theorem tw3358756854085065781:True:=⟨⟩
theorem tw6427946655147280694:True:=⟨⟩
theorem tw15936516699806864783:True:=⟨⟩
theorem tw6629558483020816311:True:=⟨⟩
theorem tw1264722290014530635:True:=⟨⟩
theorem tw2999764124880730192:True:=⟨⟩
theorem tw9115667278768865795:True:=⟨⟩
theorem tw39114715935089597:True:=⟨⟩
theorem tw8981897848433098450:True:=⟨⟩
theorem tw304184544306671118:True:=⟨⟩
theorem tw16797378263030824870:True:=⟨⟩
theorem tw4937956310889409486:True:=⟨⟩
theorem tw1262157928813606339:True:=⟨⟩
theorem tw7069249602263848704:True:=⟨⟩
theorem tw6114618220394743965:True:=⟨⟩
theorem tw14800775915517633767:True:=⟨⟩
theorem tw6323085401506773712:True:=⟨⟩
theorem tw11159516240148320387:True:=⟨⟩
theorem tw4264982445955957986:True:=⟨⟩
theorem tw14223431166105426034:True:=⟨⟩
theorem tw4086371534825043159:True:=⟨⟩
theorem tw12665796650266420870:True:=⟨⟩
theorem tw5183988837515581637:True:=⟨⟩
theorem tw17533180784572756556:True:=⟨⟩
theorem tw5301621860587241686:True:=⟨⟩
theorem tw9252393037035079295:True:=⟨⟩
theorem tw17431819649687901014:True:=⟨⟩
theorem tw2882209920447838242:True:=⟨⟩
theorem tw1806352425609446259:True:=⟨⟩
theorem tw4066164381391630739:True:=⟨⟩
theorem tw10321388008102524314:True:=⟨⟩
theorem tw1160128632190977006:True:=⟨⟩
theorem tw9488663949759058078:True:=⟨⟩
theorem tw9778218057833861064:True:=⟨⟩
theorem tw6808754164606147086:True:=⟨⟩
theorem tw9775964826676180683:True:=⟨⟩
theorem tw18209764765288584293:True:=⟨⟩
theorem tw5594622604788519810:True:=⟨⟩
theorem tw729036242106403465:True:=⟨⟩
theorem tw2838120851861184446:True:=⟨⟩
theorem tw12979042540326452519:True:=⟨⟩
theorem tw1175274086861388425:True:=⟨⟩
theorem tw3737475024420461901:True:=⟨⟩
theorem tw5213924757263422122:True:=⟨⟩
theorem tw16705917507660152909:True:=⟨⟩
theorem tw3171872062912571452:True:=⟨⟩
theorem tw8274127411923714533:True:=⟨⟩
theorem tw1998186456948521584:True:=⟨⟩
theorem tw10209773099888371840:True:=⟨⟩
theorem tw4241445165831393836:True:=⟨⟩
theorem tw11874522840466520366:True:=⟨⟩
theorem tw8381172271594918601:True:=⟨⟩
theorem tw6771403343390777777:True:=⟨⟩
theorem tw11388456907286184031:True:=⟨⟩
theorem tw11488629345072346497:True:=⟨⟩
theorem tw4503234424366277472:True:=⟨⟩
theorem tw10753569273746999059:True:=⟨⟩
theorem tw9819935658209946158:True:=⟨⟩
theorem tw12036342466892338885:True:=⟨⟩
theorem tw4532505832917854545:True:=⟨⟩
theorem tw16161756200637688613:True:=⟨⟩
theorem tw9332096337776282222:True:=⟨⟩
theorem tw7236539259817306283:True:=⟨⟩
theorem tw4541072476597844337:True:=⟨⟩
theorem tw12942690115667980225:True:=⟨⟩
theorem tw12445947015385815450:True:=⟨⟩
theorem tw14245285383005241500:True:=⟨⟩
theorem tw12123768673733961319:True:=⟨⟩
theorem tw14090777543608000684:True:=⟨⟩
theorem tw10391500964062964425:True:=⟨⟩
theorem tw17758990209789202636:True:=⟨⟩
theorem tw11333188324281039438:True:=⟨⟩
theorem tw13542541592345689741:True:=⟨⟩
theorem tw8983452311341773248:True:=⟨⟩
theorem tw15475877510916356660:True:=⟨⟩
theorem tw6816539275385179407:True:=⟨⟩
theorem tw4849347244059087095:True:=⟨⟩
theorem tw12559867912708119675:True:=⟨⟩
theorem tw1343082262776176878:True:=⟨⟩
theorem tw8345019694051582414:True:=⟨⟩
theorem tw9756109512353112618:True:=⟨⟩
theorem tw13198176986611223610:True:=⟨⟩
theorem tw10567838656954559861:True:=⟨⟩
theorem tw13591392312861405624:True:=⟨⟩
theorem tw4602649446778435609:True:=⟨⟩
theorem tw2639151901218516271:True:=⟨⟩
theorem tw2235748223177817835:True:=⟨⟩
theorem tw338845841112007523:True:=⟨⟩
theorem tw5998547411418575266:True:=⟨⟩
theorem tw14847307921058794003:True:=⟨⟩
theorem tw15708587742540816184:True:=⟨⟩
theorem tw16362335166432034548:True:=⟨⟩
theorem tw18424952703379350435:True:=⟨⟩
theorem tw14509461468997295122:True:=⟨⟩
theorem tw2903021923639185553:True:=⟨⟩
theorem tw1330654530293458850:True:=⟨⟩
theorem tw17462337917427984722:True:=⟨⟩
theorem tw13782350296058776102:True:=⟨⟩
theorem tw12167926211660868957:True:=⟨⟩
theorem tw15332242253574144:True:=⟨⟩
theorem tw13850995260176342011:True:=⟨⟩
theorem tw5891405310662441840:True:=⟨⟩
theorem tw10564364638287175715:True:=⟨⟩
theorem tw1718239234541716668:True:=⟨⟩
theorem tw6899018411752257007:True:=⟨⟩
theorem tw2724700249624987286:True:=⟨⟩
theorem tw2037953122310812655:True:=⟨⟩
theorem tw10394857937931230577:True:=⟨⟩
theorem tw3847365565410666587:True:=⟨⟩
theorem tw5198894213075867028:True:=⟨⟩
theorem tw13935431132471042977:True:=⟨⟩
theorem tw4815705808500558074:True:=⟨⟩
theorem tw14007716511897124003:True:=⟨⟩
theorem tw8197157005091074802:True:=⟨⟩
theorem tw5979069518955837089:True:=⟨⟩
theorem tw1337237164424056334:True:=⟨⟩
theorem tw5693036955357869680:True:=⟨⟩
theorem tw14364342457194472891:True:=⟨⟩
theorem tw6199755711329202264:True:=⟨⟩
theorem tw12510631264404642932:True:=⟨⟩
theorem tw1832200546406214395:True:=⟨⟩
theorem tw875294715931258192:True:=⟨⟩
theorem tw18129856629152832240:True:=⟨⟩
theorem tw18155159553317727445:True:=⟨⟩
theorem tw1011059034883112199:True:=⟨⟩
theorem tw1808959521723538683:True:=⟨⟩
theorem tw9734078741735582949:True:=⟨⟩
theorem tw8614372608550475688:True:=⟨⟩
theorem tw14736917236199738181:True:=⟨⟩
theorem tw5864435740337053105:True:=⟨⟩
theorem tw10717031891801425195:True:=⟨⟩
theorem tw3175793129325565568:True:=⟨⟩
theorem tw7637421075229255872:True:=⟨⟩
theorem tw16010056135360625113:True:=⟨⟩
theorem tw16826845721122899755:True:=⟨⟩
theorem tw3681100910288080671:True:=⟨⟩
theorem tw575158962812057487:True:=⟨⟩
theorem tw10076444307036521006:True:=⟨⟩
theorem tw13130230269186849961:True:=⟨⟩
theorem tw13211885535231857324:True:=⟨⟩
theorem tw17307851136022991533:True:=⟨⟩
theorem tw272210503120203397:True:=⟨⟩
theorem tw10855281828576750250:True:=⟨⟩
theorem tw12315984287930890097:True:=⟨⟩
theorem tw9445966649578573447:True:=⟨⟩
theorem tw4466990355954136471:True:=⟨⟩
theorem tw14531287147329169985:True:=⟨⟩
theorem tw4219227546150148102:True:=⟨⟩
theorem tw1165261662457107579:True:=⟨⟩
theorem tw10330802806625685326:True:=⟨⟩
theorem tw15168120342907050441:True:=⟨⟩
theorem tw228528525134357834:True:=⟨⟩
theorem tw10909827152852491235:True:=⟨⟩
theorem tw13228556964678037574:True:=⟨⟩
theorem tw16012028926012790824:True:=⟨⟩
theorem tw5294956623492909581:True:=⟨⟩
theorem tw17547160046926106932:True:=⟨⟩
theorem tw6667850443335243645:True:=⟨⟩
theorem tw2947413647688279031:True:=⟨⟩
theorem tw15844208937675609885:True:=⟨⟩
theorem tw7719995673914957672:True:=⟨⟩
theorem tw8226670362122984890:True:=⟨⟩
theorem tw14002555490534140679:True:=⟨⟩
theorem tw14691421858132248500:True:=⟨⟩
theorem tw4770354892399994177:True:=⟨⟩
theorem tw18049325828253597862:True:=⟨⟩
theorem tw2451343954729056448:True:=⟨⟩
theorem tw10574277818726707004:True:=⟨⟩
theorem tw17040504790431140869:True:=⟨⟩
theorem tw15404481226913721015:True:=⟨⟩
theorem tw2559571184831349287:True:=⟨⟩
theorem tw354123315885289062:True:=⟨⟩
theorem tw5380592974634685018:True:=⟨⟩
theorem tw16121071606444059616:True:=⟨⟩
theorem tw7184149463426245161:True:=⟨⟩
theorem tw17220969963928466695:True:=⟨⟩
theorem tw11851590502823971734:True:=⟨⟩
theorem tw15982818920264986703:True:=⟨⟩
theorem tw3757445061603866152:True:=⟨⟩
theorem tw262694459000759448:True:=⟨⟩
theorem tw8724602406269592980:True:=⟨⟩
theorem tw3426950623438221815:True:=⟨⟩
theorem tw12790007097773323726:True:=⟨⟩
theorem tw11343740142285345600:True:=⟨⟩
theorem tw4028046539668108382:True:=⟨⟩
theorem tw8283413834974021359:True:=⟨⟩
theorem tw576973036870169442:True:=⟨⟩
theorem tw9476290576377775260:True:=⟨⟩
theorem tw13199740008783548710:True:=⟨⟩
theorem tw5669456105299088456:True:=⟨⟩
theorem tw10843666698410442088:True:=⟨⟩
theorem tw8044848235679361919:True:=⟨⟩
theorem tw4482658333352308478:True:=⟨⟩
theorem tw2391472813615468816:True:=⟨⟩
theorem tw1578693763096583160:True:=⟨⟩
theorem tw11913983755792672043:True:=⟨⟩
theorem tw10411367449537118283:True:=⟨⟩
theorem tw8184074750169335974:True:=⟨⟩
theorem tw7138955884950597479:True:=⟨⟩
theorem tw10731398140983895592:True:=⟨⟩
theorem tw13743974730457536234:True:=⟨⟩
theorem tw14153806879587308216:True:=⟨⟩
theorem tw3157962496071581407:True:=⟨⟩
theorem tw996524888919946853:True:=⟨⟩
theorem tw6780090628785501351:True:=⟨⟩
theorem tw12876638917582071311:True:=⟨⟩
theorem tw10138472281335632101:True:=⟨⟩
theorem tw3998469711819392474:True:=⟨⟩
theorem tw13202130421829270111:True:=⟨⟩
theorem tw13102201126896021169:True:=⟨⟩
theorem tw1357159616692091609:True:=⟨⟩
theorem tw16839527553599783150:True:=⟨⟩
theorem tw16067198543595760941:True:=⟨⟩
theorem tw3037854758654041146:True:=⟨⟩
theorem tw13701719249339740043:True:=⟨⟩
theorem tw17707167370878650467:True:=⟨⟩
theorem tw12563218438147539779:True:=⟨⟩
theorem tw15477576314410204339:True:=⟨⟩
theorem tw5462162196355072086:True:=⟨⟩
theorem tw10302065400133059766:True:=⟨⟩
theorem tw17859263781818356924:True:=⟨⟩
theorem tw9908455189859632493:True:=⟨⟩
theorem tw15142877469218204022:True:=⟨⟩
theorem tw7775738318207317196:True:=⟨⟩
theorem tw9182692917042136319:True:=⟨⟩
theorem tw16897213520966559699:True:=⟨⟩
theorem tw1050242330241147456:True:=⟨⟩
theorem tw4444268214739144455:True:=⟨⟩
theorem tw4848005429994645815:True:=⟨⟩
theorem tw4922580204666526810:True:=⟨⟩
theorem tw12196514085603242159:True:=⟨⟩
theorem tw378080189098485064:True:=⟨⟩
theorem tw16592212823155174388:True:=⟨⟩
theorem tw5490435277437204902:True:=⟨⟩
theorem tw5701903506504834046:True:=⟨⟩
theorem tw8954510041539240943:True:=⟨⟩
theorem tw14783317461669791154:True:=⟨⟩
theorem tw3244945008666773716:True:=⟨⟩
theorem tw7658961120063649043:True:=⟨⟩
theorem tw10240687580137035578:True:=⟨⟩
theorem tw16344541446888688105:True:=⟨⟩
theorem tw683591142789658024:True:=⟨⟩
theorem tw3002660235537903196:True:=⟨⟩
theorem tw5329492587109657765:True:=⟨⟩
theorem tw16371597073376648803:True:=⟨⟩
theorem tw28309671157316283:True:=⟨⟩
theorem tw14075530340506105294:True:=⟨⟩
theorem tw5316299537209781568:True:=⟨⟩
theorem tw5003738228082426878:True:=⟨⟩
theorem tw8856501101722409432:True:=⟨⟩
theorem tw12119898094660274349:True:=⟨⟩
theorem tw2109605012964886889:True:=⟨⟩
theorem tw13158649347516527034:True:=⟨⟩
theorem tw8087304750628480855:True:=⟨⟩
theorem tw14318889064149052707:True:=⟨⟩
theorem tw827433630449035169:True:=⟨⟩
theorem tw6824566948637204963:True:=⟨⟩
theorem tw10819060973933214156:True:=⟨⟩
theorem tw14165861343411108779:True:=⟨⟩
theorem tw6349801566062824406:True:=⟨⟩
theorem tw17486872276952990585:True:=⟨⟩
theorem tw15580197732381421917:True:=⟨⟩
theorem tw15638775412183312760:True:=⟨⟩
theorem tw16280424149350176774:True:=⟨⟩
theorem tw11635824462739080724:True:=⟨⟩
theorem tw13951374411824812143:True:=⟨⟩
theorem tw8544832432115152246:True:=⟨⟩
theorem tw6321268255861163386:True:=⟨⟩
theorem tw18328942929702810745:True:=⟨⟩
theorem tw2310101913113609543:True:=⟨⟩
theorem tw8985633631371137082:True:=⟨⟩
theorem tw5914374365383361237:True:=⟨⟩
theorem tw795047378413845724:True:=⟨⟩
theorem tw230302200396955420:True:=⟨⟩
theorem tw12652023562109845183:True:=⟨⟩
theorem tw12507031461759178350:True:=⟨⟩
theorem tw5523754800658120937:True:=⟨⟩
theorem tw2646377807806433201:True:=⟨⟩
theorem tw9702296429945606595:True:=⟨⟩
theorem tw4023677524627702797:True:=⟨⟩
theorem tw6417929910075842843:True:=⟨⟩
theorem tw1027014141324295045:True:=⟨⟩
theorem tw11319130638950609718:True:=⟨⟩
theorem tw18024618348846235949:True:=⟨⟩
theorem tw6923954737419804352:True:=⟨⟩
theorem tw9727245546657324447:True:=⟨⟩
theorem tw10248993692875076184:True:=⟨⟩
theorem tw18167719725938643615:True:=⟨⟩
theorem tw5215783940884295098:True:=⟨⟩
theorem tw12454715288298617311:True:=⟨⟩
theorem tw17100877632238577840:True:=⟨⟩
theorem tw6224734212239252399:True:=⟨⟩
theorem tw8526700242459295948:True:=⟨⟩
theorem tw8546885068002030610:True:=⟨⟩
theorem tw10296259771578395981:True:=⟨⟩
theorem tw5420063077900006582:True:=⟨⟩
theorem tw3678059018976485022:True:=⟨⟩
theorem tw245013133163244836:True:=⟨⟩
theorem tw17266161378926834816:True:=⟨⟩
theorem tw6792490693050223795:True:=⟨⟩
theorem tw5591168681453435091:True:=⟨⟩
theorem tw8291394495661944462:True:=⟨⟩
theorem tw2977267660811827510:True:=⟨⟩
theorem tw874151819243354291:True:=⟨⟩
end PySem.W.Fast
set_option maxRecDepth 100000 in
set_option maxHeartbeats 0 in
theorem PySem.Challenge.cw_neverwait_k34_hands_in_turn_holds : PySem.Challenge.rw_neverwait_k34_hands_in_turn.Holds := by
 w_on; o_law; k_head; (case hw=>w_witness2)
 k_fill
 refine K12.walk (l:=PySem.Challenge.rw_neverwait_k34_hands_in_turn) (Pt:=_) rfl rfl (fun w h Y=>PySem.W.km_in_of Y) (fun w h Y=>PySem.W.km_tabs_of Y) ?cd ?kt ?F
 case F =>
  intro w mg fa h KX G hmg
  refine' K12.aEz (Pt:=_) KX G hmg ?_ ?_ ?_ ?_ ?_ ?_ ?_ ?_ ?_ ?_ ?_ ?_ ?_ ?_ ?_ ?_ ?_ ?_ ?_ ?_ ?_ ?_ ?_ ?_ ?_ ?_ ?_ ?_ ?_ ?_ ?_ ?_ ?_ ?_ ?_ ?_ ?_ ?_ ?_ ?_ ?_ ?_ ?_ ?_ ?_ ?_ ?_ ?_ ?_ ?_ ?_ ?_ ?_ ?_ ?_ ?_ ?_ ?_ ?_ ?_ ?_ ?_ ?_ ?_ ?_ ?_ ?_ ?_ ?_ ?_ ?_ ?_ ?_ ?_ ?_ ?_ ?_ ?_ ?_ ?_ ?_ ?_ ?_ ?_ ?_ ?_ ?_ ?_ ?_
  all_goals first
   | (refine' K12.FD.mk ?a ?l ?d ?k; (case a=>k_is); (case l=>k_is); (case d=>k_is); (case k=>k_is))
   | (refine' K12.FC.mk ?a ?l ?d ?k; (case a=>k_is); (case l=>k_is); (case d=>k_is); (case k=>k_is))
   | (refine' K12.MD.mk ?a ?i ?l ?d ?k; (case a=>k_is); (case i=>k_is); (case l=>k_is); (case d=>k_is); (case k=>k_is))
   | k_is
   | kernel_rfl
   | exact ⟨by kernel_rfl,by k_is,by k_is,by k_is,by k_is,by k_is,by k_is,by kernel_rfl⟩
   | skip
 case kt=>intro w; kernel_rfl
 case cd=>intro w; kernel_rfl
