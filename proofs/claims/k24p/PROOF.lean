import PyProof.Rows.All
import Wide.All
import OpenK.AllK
import Wide.FinOn
import Lean
import PyProof.EqAt
import PyProof.EqKinds
import PyProof.TupleCall
import PySem.Challenge.RW_neverwait_k24_led_about
set_option Elab.async false
set_option linter.all false
set_option maxRecDepth 100000
set_option maxHeartbeats 8000000
namespace L2
open PySem PySem.Spec PyProof.Rows
abbrev Key:=Sum Int Str
def lT:Key→Value→Bool
 |.inl k,v=>Value.isInt k v
 |.inr x,v=>Value.isStrOf x v
def keyH(w:World):Key→Int
 |.inl k=>hashInt k
 |.inr x=>hashStr w x
theorem cV:∀ {k:Key} {v:Value},lT k v=true→(∃i t,k=Sum.inl i∧v=Value.int i t)∨(∃x t,k=Sum.inr x∧v=Value.str x t)
 |.inl i,v,h=>by
  obtain⟨t,e⟩:=Value.isInt_shape (k:=i) (v:=v) h
  exact .inl ⟨i,t,rfl,e⟩
 |.inr x,v,h=>by
  obtain⟨t,e⟩:=Value.isStrOf_shape (x:=x) (v:=v) h
  exact .inr ⟨x,t,rfl,e⟩
theorem zZ(i:Int)(t:Tok):lT (.inl i) (.int i t)=true:=by simp[lT,Value.isInt]
theorem aAa(x:Str)(t:Tok):lT (.inr x) (.str x t)=true:=by simp[lT,Value.isStrOf]
theorem aDH(a b:Int):decide ((Sum.inl a:Key)=Sum.inl b)=(a==b):=by
 by_cases e:a=b
 ·subst e;simp
 ·have h:¬ (Sum.inl a:Key)=Sum.inl b:=fun q=>e (Sum.inl.inj q)
  rw[decide_eq_false h]
  exact(beq_eq_false_iff_ne.mpr e).symm
theorem aDI(a b:Str):decide ((Sum.inr a:Key)=Sum.inr b)=decide (a=b):=by
 by_cases e:a=b
 ·subst e;simp
 ·have h:¬ (Sum.inr a:Key)=Sum.inr b:=fun q=>e (Sum.inr.inj q)
  rw[decide_eq_false h,decide_eq_false e]
theorem aDJ(a:Int)(b:Str):decide ((Sum.inl a:Key)=Sum.inr b)=false:=decide_eq_false (fun q=>nomatch q)
theorem aDK(a:Str)(b:Int):decide ((Sum.inr a:Key)=Sum.inl b)=false:=decide_eq_false (fun q=>nomatch q)
def bX(prog:Program)(w:World):PySem.KeyKind prog w Key where
 is:=lT
 hash:=keyH w
 inj:=fun v a b ha hb=>by
  rcases cV ha with ⟨i,t,rfl,rfl⟩|⟨x,t,rfl,rfl⟩
  ·rcases cV hb with ⟨j,u,rfl,e⟩|⟨y,u,rfl,e⟩
   ·injection e with e1 _;rw[e1]
   ·exact nomatch e
  ·rcases cV hb with ⟨j,u,rfl,e⟩|⟨y,u,rfl,e⟩
   ·exact nomatch e
   ·injection e with e1 _;rw[e1]
 byValue:=fun k v h=>by
  rcases cV h with ⟨i,t,rfl,rfl⟩|⟨x,t,rfl,rfl⟩ <;> rfl
 pyHash:=fun hv h=>by
  rcases cV hv with ⟨i,t,rfl,rfl⟩|⟨x,t,rfl,rfl⟩
  ·exact wpAny_pyHash_int h
  ·exact wpAny_pyHash_str h
 eqBool:=fun hu hv h=>by
  rcases cV hu with ⟨i,t,rfl,rfl⟩|⟨x,t,rfl,rfl⟩
  ·rcases cV hv with ⟨j,u,rfl,rfl⟩|⟨y,u,rfl,rfl⟩
   ·rw[aDH] at h;exact wpAny_eqBool_int h
   ·rw[aDJ] at h;exact SeqAt.EqAt.int_str i t y u _ _ _ _ h
  ·rcases cV hv with ⟨j,u,rfl,rfl⟩|⟨y,u,rfl,rfl⟩
   ·rw[aDK] at h;exact SeqAt.EqAt.str_int x t j u _ _ _ _ h
   ·rw[aDI] at h;exact wpAny_eqBool_str h
 «strs»:=fun k x t v h=>by
  rcases cV h with ⟨i,u,rfl,e⟩|⟨y,u,rfl,e⟩
  ·exact nomatch e
  ·injection e with e1 _
   subst e1
   cases v <;> rfl
theorem uY(prog:Program)(w:World)(i:Int)(t:Tok):(bX prog w).is (.inl i) (.int i t)=true:=zZ i t
theorem uZ(prog:Program)(w:World)(x:Str)(t:Tok):(bX prog w).is (.inr x) (.str x t)=true:=aAa x t
end L2
namespace L2
open PySem PySem.Spec PyProof.Rows
inductive V where
 |non|bl (b:Bool)|int (i:Int)|str (x:Str)|byt (b:Array UInt8)|flt (b:UInt64)|ref (a:Addr)|ty (n:String)
 deriving DecidableEq
def RelV:V→Value→Prop
 |.non,u=>u=Value.none
 |.bl b,u=>u=Value.bool b
 |.int i,u=>∃t,u=Value.int i t
 |.str x,u=>∃t,u=Value.str x t
 |.byt b,u=>∃t,u=Value.bytes b t
 |.flt b,u=>∃t,u=Value.float b t
 |.ref a,u=>u=Value.ref a
 |.ty n,u=>u=Value.type n
abbrev Vals:List V→List Value→Prop:=Paired RelV
theorem Vals.length{xs:List V}{us:List Value}(r:Vals xs us):xs.length=us.length:=Paired.length r
theorem Vals.get:∀ {xs:List V} {us:List Value} {i:Nat} {x:V},Vals xs us→xs[i]?=some x→∃u,us[i]?=some u∧RelV x u
 |_,_,_,_,.nil,e=>by simp at e
 |_,_,0,_,.cons r _,e=>by simp at e;subst e;exact⟨_,rfl,r⟩
 |_,_,i+1,x,.cons _ t,e=>by
  obtain⟨u,h1,h2⟩:=Vals.get (i:=i) (x:=x) t (by simpa using e)
  exact⟨u,by simpa using h1,h2⟩
theorem Vals.set{x:V}{u:Value}(r:RelV x u):∀ {xs:List V} {us:List Value} (i:Nat),Vals xs us→Vals (xs.set i x) (us.set i u)
 |_,_,_,.nil=>.nil
 |_,_,0,.cons _ t=>.cons r t
 |_,_,i+1,.cons q t=>.cons q (Vals.set r i t)
theorem Vals.append:∀ {xs ys:List V} {us ws:List Value},Vals xs us→Vals ys ws→Vals (xs++ys) (us++ws)
 |_,_,_,_,.nil,s=>s
 |_,_,_,_,.cons r t,s=>.cons r (Vals.append t s)
theorem Vals.take:∀ {xs:List V} {us:List Value} (n:Nat),Vals xs us→Vals (xs.take n) (us.take n)
 |_,_,0,_=>.nil
 |_,_,_+1,.nil=>.nil
 |_,_,n+1,.cons r t=>.cons r (Vals.take n t)
theorem Vals.drop:∀ {xs:List V} {us:List Value} (n:Nat),Vals xs us→Vals (xs.drop n) (us.drop n)
 |_,_,0,r=>r
 |_,_,_+1,.nil=>.nil
 |_,_,n+1,.cons _ t=>Vals.drop n t
def RelO:Option V→Option Value→Prop
 |some v,some u=>RelV v u
 |none,none=>True
 |_,_=>False
def KV{κ:Type}:List (κ×V)→List (κ×Value)→Prop:=Paired fun (p:κ×V) (q:κ×Value)=>p.1=q.1∧RelV p.2 q.2
def kV:Key→V
 |.inl i=>.int i
 |.inr x=>.str x
inductive HO where
 |lst (xs:List V)
 |tup (xs:List V)
 |dK (kvs:List (Key×V))|dT (kvs:List (List Key×V))
 |set (S:Int→Bool) (n:Nat)
 |ins (C dx:Addr) (fs:List (Str×V))
 |own (x:Addr)
 |xd (fs:List (Str×V))
 |met (f x:Addr)
 |rng (lo hi:Int)
 |frz (o:Obj) (u:HO)
 |tbl (ps:Array Value)
 |ext (φ:Heap→Prop)
abbrev Hp:=Addr→Option HO
def upd(H:Hp)(a:Addr)(o:HO):Hp:=fun b=>if b=a then some o else H b
theorem aB{H:Hp}{a:Addr}{o:HO}:upd H a o a=some o:=by unfold upd;rw[if_pos rfl]
theorem aF{H:Hp}{a b:Addr}{o:HO}(h:b≠a):upd H a o b=H b:=by unfold upd;rw[if_neg h]
theorem jE{H:Hp}{a:Addr}{o u:HO}:upd (upd H a o) a u=upd H a u:=by
 funext b;unfold upd;split <;> rfl
theorem dL{H:Hp}{a b:Addr}{o u:HO}(h:H a=some o)(h':H b=some u)(d:o≠u):a≠b:=by
 intro e;subst e;rw[h] at h';exact d (Option.some.inj h')
theorem aH{H:Hp}{a b:Addr}{o:HO}(h:H a=some o)(h':H b=none):a≠b:=by
 intro e;subst e;rw[h] at h';cases h'
section
variable (P:Program) (w:World)
def jF(h:Heap)(a:Addr)(items:Array Value):Prop:=∃o,h.get? a=some o∧o.cls=.type "tuple"∧∃n,o.data=.seq items n∧o.dict=none
theorem jF.tup{h:Heap}{a:Addr}{items:Array Value}(p:jF h a items):IsTup h a items:=let ⟨o,e,c,n,d,_⟩:=p;⟨o,e,c,n,d⟩
theorem jF.new(h:Heap)(items:Array Value):jF (h.push { cls:=.type "tuple",data:=.seq items }) h.objs.size items:=⟨_,Heap.get?_push_size _ rfl,rfl,_,rfl,rfl⟩
def bW(H:Hp)(h:Heap)(a:Addr):HO→Prop
 |.lst xs=>xs.length≤sizeLine∧∃ (its:List Value) (n:Nat),Vals xs its∧h.get? a=some { cls:=.type "list",data:=.seq its.toArray n }
 |.tup xs=>xs.length≤sizeLine∧∃its:List Value,Vals xs its∧jF h a its.toArray
 |.dK kvs=>kvs.length≤sizeLine∧(a==sysModules)=false∧∃vs,KV kvs vs∧h.DictOf (bX P w) a vs
 |.dT kvs=>kvs.length≤sizeLine∧(a==sysModules)=false∧∃xs:List (List Key×Addr×Value),
   Paired (fun (p:List Key×V) (q:List Key×Addr×Value)=>p.1=q.1∧H q.2.1=some (.tup (p.1.map kV))∧RelV p.2 q.2.2) kvs xs∧
   ∃o es ep,h.get? a=some o∧o.ExactDict∧o.data=.dict es ep∧es.toList=xs.map (entryOfKey (tupleKind (bX P w)))∧(xs.map (·.1)).Nodup
 |.set S n=>h.SetOf (intKind P w) a S n
 |.ins C dx fs=>H dx=some (.own a)∧fs.length≤1000∧dx≠a∧h.get? a=some (PySem.W.instObj C dx)∧
   ∃mA,h.Ns1 dx mA∧(∀f,RelO (fs.lookup f) (mA f))∧PySem.Within mA (fs.map (·.1))
 |.own _=>∃o,h.get? a=some o
 |.xd fs=>∃mA,h.Ns1 a mA∧∀f,RelO (fs.lookup f) (mA f)
 |.rng lo hi=>∃t u v,h.get? a=some { cls:=.type "range",data:=.fields #[.int lo t,.int hi u,.int 1 v] }
 |.frz o u=>h.get? a=some o∧bW H h a u
 |.tbl ps=>h.get? a=some { cls:=.none,data:=.fields ps }
 |.met f x=>h.get? a=some (PySem.W.methodObj (.ref f) (.ref x))
 |.ext φ=>φ h∧(∃o,h.get? a=some o)∧∀h1 h2:Heap,φ h1→(∀o,h1.get? a=some o→h2.get? a=some o)→φ h2
def HOk(H:Hp)(h:Heap):Prop:=∀a o,H a=some o→bW P w H h a o
end
section
variable {P:Program} {w:World} {H H':Hp} {h h':Heap} {a:Addr} {o:HO}
theorem bW.lt(x:bW P w H h a o):a<h.objs.size:=by
 cases o with
 |lst xs=>obtain⟨_,_,_,_,e⟩:=x;exact Heap.lt_size e
 |tup xs=>obtain⟨_,_,_,p⟩:=x;exact p.tup.lt
 |dK kvs=>obtain⟨_,_,_,_,o,_,_,e,_⟩:=x;exact Heap.lt_size e
 |dT kvs=>obtain⟨_,_,_,_,o,_,_,e,_⟩:=x;exact Heap.lt_size e
 |set S n=>obtain⟨o,_,_,_,e,_⟩:=x;exact Heap.lt_size e
 |ins C dx fs=>obtain⟨_,_,_,e,_⟩:=x;exact Heap.lt_size e
 |own y=>obtain⟨_,e⟩:=x;exact Heap.lt_size e
 |xd fs=>obtain⟨_,⟨_,_,_,e,_⟩,_⟩:=x;exact Heap.lt_size e
 |rng lo hi=>obtain⟨_,_,_,e⟩:=x;exact Heap.lt_size e
 |frz ob u=>obtain⟨e,_⟩:=x;exact Heap.lt_size e
 |tbl ps=>exact Heap.lt_size (show h.get? a=some _ from x)
 |met f y=>exact Heap.lt_size (show h.get? a=some _ from x)
 |ext φ=>obtain⟨_,⟨_,e⟩,_⟩:=x;exact Heap.lt_size e
theorem Paired.mapP{α β:Type}{F G:α→β→Prop}:∀ {l₁:List α} {l₂:List β},Paired F l₁ l₂→(∀a b,F a b→G a b)→Paired G l₁ l₂
 |_,_,.nil,_=>.nil
 |_,_,.cons r t,f=>.cons (f _ _ r) (Paired.mapP t f)
theorem bW.stay(x:bW P w H h a o)(k:∀b u,(b=a∨H b=some (.own a))→h.get? b=some u→h'.get? b=some u)(ho:∀b,H b=some (.own a)→H' b=some (.own a))(ht:∀b xs,H b=some (.tup xs)→H' b=some (.tup xs)):bW P w H' h' a o:=by
 induction o with
 |lst xs=>obtain⟨z,its,n,r,e⟩:=x;exact⟨z,its,n,r,k _ _ (.inl rfl) e⟩
 |tup xs=>obtain⟨z,its,r,ob,e,c⟩:=x;exact⟨z,its,r,ob,k _ _ (.inl rfl) e,c⟩
 |dK kvs=>obtain⟨z,y,vs,r,ob,es,ep,e,c⟩:=x;exact⟨z,y,vs,r,ob,es,ep,k _ _ (.inl rfl) e,c⟩
 |dT kvs=>
  obtain⟨z,y,xs,r,ob,es,ep,e,c⟩:=x
  exact⟨z,y,xs,Paired.mapP r fun p q z=>⟨z.1,ht _ _ z.2.1,z.2.2⟩,ob,es,ep,k _ _ (.inl rfl) e,c⟩
 |set S n=>obtain⟨ob,es,ep,t,e,c⟩:=x;exact⟨ob,es,ep,t,k _ _ (.inl rfl) e,c⟩
 |ins C dx fs=>
  obtain⟨d,z,ne,e,mA,⟨od,es,ep,e2,c⟩,r⟩:=x
  exact⟨ho _ d,z,ne,k _ _ (.inl rfl) e,mA,⟨od,es,ep,k _ _ (.inr d) e2,c⟩,r⟩
 |own y=>obtain⟨ob,e⟩:=x;exact⟨ob,k _ _ (.inl rfl) e⟩
 |xd fs=>obtain⟨mA,⟨od,es,ep,e,c⟩,r⟩:=x;exact⟨mA,⟨od,es,ep,k _ _ (.inl rfl) e,c⟩,r⟩
 |rng lo hi=>obtain⟨t,u,v,e⟩:=x;exact⟨t,u,v,k _ _ (.inl rfl) e⟩
 |frz ob u ih=>obtain⟨e,q⟩:=x;exact⟨k _ _ (.inl rfl) e,ih q⟩
 |tbl ps=>
  have e:h.get? a=some { cls:=.none,data:=.fields ps }:=x
  show h'.get? a=some { cls:=.none,data:=.fields ps }
  exact k a _ (.inl rfl) e
 |met f y=>
  have e:h.get? a=some (PySem.W.methodObj (.ref f) (.ref y)):=x
  show h'.get? a=some (PySem.W.methodObj (.ref f) (.ref y))
  exact k a _ (.inl rfl) e
 |ext φ=>obtain⟨p,⟨o,e⟩,st⟩:=x;exact⟨st _ _ p fun o q=>k _ _ (.inl rfl) q,⟨o,k _ _ (.inl rfl) e⟩,st⟩
theorem HOk.lt(x:HOk P w H h)(e:H a=some o):a<h.objs.size:=(x a o e).lt
theorem HOk.fresh(x:HOk P w H h)(e:h.objs.size≤a):H a=none:=by
 cases q:H a with
 |none=>rfl
 |some u=>exact absurd (Nat.lt_of_lt_of_le (x.lt q) e) (Nat.lt_irrefl _)
theorem HOk.kept(x:HOk P w H h)(k:∀b u,h.get? b=some u→h'.get? b=some u):HOk P w H h':=fun a o e=>
 (x a o e).stay (fun b u _ q=>k b u q) (fun _ q=>q) fun _ _ q=>q
theorem HOk.laid(x:HOk P w H h)(k:∀b u,h.get? b=some u→h'.get? b=some u)(hp:h.objs.size≤a)(new:bW P w (upd H a o) h' a o):HOk P w (upd H a o) h':=fun b u e=>by
 have hn:=x.fresh hp
 by_cases hb:b=a
 ·subst hb;rw[aB] at e;cases e;exact new
 ·rw[aF hb] at e
  exact(x b u e).stay (fun c v _ q=>k c v q) (fun c q=>by rw[aF (aH q hn)];exact q) fun c xs q=>by rw[aF (aH q hn)];exact q
end
def Rd(H:Hp)(a:Addr)(u:HO):Prop:=H a=some u∨∃o,H a=some (.frz o u)
theorem Rd.ok{P:Program}{w:World}{H:Hp}{h:Heap}{a:Addr}{u:HO}(r:Rd H a u)(x:HOk P w H h):bW P w H h a u:=by
 rcases r with r|⟨o,r⟩
 ·exact x a u r
 ·obtain⟨_,q⟩:=x a _ r
  exact q
def Mut:Option HO→Prop
 |some (.lst _)=>True
 |some (.dK _)=>True
 |some (.dT _)=>True
 |some (.set _ _)=>True
 |some (.ins _ _ _)=>True
 |some (.ext _)=>True
 |_=>False
section
variable {P:Program} {w:World} {H:Hp} {h h':Heap} {x e:Addr} {o':HO}
theorem HOk.write(ok:HOk P w H h)(mu:Mut (H x))(he:e=x∨H e=some (.own x))(k:∀b u,b≠e→h.get? b=some u→h'.get? b=some u)(heo:∃u,h'.get? e=some u)(new:bW P w (upd H x o') h' x o'):HOk P w (upd H x o') h':=fun b u q=>by
 have nown:∀c y,H c=some (.own y)→c≠x:=fun c y r z=>by subst z;rw[r] at mu;exact mu
 have ntup:∀c xs,H c=some (.tup xs)→c≠x:=fun c xs r z=>by subst z;rw[r] at mu;exact mu
 by_cases hb:b=x
 ·subst hb;rw[aB] at q;cases q;exact new
 ·rw[aF hb] at q
  by_cases hbe:b=e
  ·have q':H b=some (.own x):=by
    rcases he with z|z
    ·exact absurd (hbe.trans z) hb
    ·rw[hbe];exact z
   rw[q] at q';cases q'
   obtain⟨v,hv⟩:=heo
   exact⟨v,by rw[hbe];exact hv⟩
  ·refine(ok b u q).stay (fun c v hc r=>k c v ?_ r) (fun c r=>by rw[aF (nown c b r)];exact r) fun c xs r=>by rw[aF (ntup c xs r)];exact r
   rcases hc with rfl|hc
   ·exact hbe
   ·rintro rfl
    rcases he with z|z
    ·exact nown c b hc z
    ·rw[hc] at z;cases z;exact hb rfl
end
structure Un(fs ex:List Addr)(H H':Hp)(h h':Heap):Prop where
 keep:∀b o,h.get? b=some o→H b=none→b∉fs→b∉ex→h'.get? b=some o
 slot:∀b o,h.get? b=some o→H b=none→b∈fs→b∉ex→∃sl,h'.get? b=some { o with slots:=sl }
 free:∀b o,h.get? b=some o→H b=none→b∉ex→H' b=none
 there:∀b o,h.get? b=some o→b∉ex→∃o',h'.get? b=some o'
 tups:∀b xs,H b=some (.tup xs)→H' b=some (.tup xs)
 frzs:∀b o u,H b=some (.frz o u)→H' b=some (.frz o u)
 tbls:∀b ps,H b=some (.tbl ps)→∃more,H' b=some (.tbl (ps++more))
section
variable {fs fs' ex ex':List Addr} {H H1 H2:Hp} {h h1 h2 h':Heap} {a x e:Addr} {o:HO}
theorem Un.any(u:Un fs ex H H1 h h1){b:Addr}{ob:Obj}(q:h.get? b=some ob)(n:H b=none)(hx:b∉ex):∃sl,h1.get? b=some { ob with slots:=sl }:=by
 by_cases hb:b∈fs
 ·exact u.slot b ob q n hb hx
 ·exact⟨ob.slots,u.keep b ob q n hb hx⟩
theorem Un.kept(k:∀b u,h.get? b=some u→h'.get? b=some u):Un fs ex H H h h':=
 ⟨fun b ob q _ _ _=>k b ob q,fun b ob q _ _ _=>⟨ob.slots,k b ob q⟩,fun _ _ _ n _=>n,fun b ob q _=>⟨ob,k b ob q⟩,fun _ _ q=>q,fun _ _ _ q=>q,fun _ ps q=>⟨#[],by rw[q];simp⟩⟩
theorem Un.refl:Un fs ex H H h h:=Un.kept fun _ _ q=>q
theorem Un.laid(k:∀b u,h.get? b=some u→h'.get? b=some u)(hp:h.objs.size≤a)(hn:H a=none):Un fs ex H (upd H a o) h h' where
 keep:=fun b u q _ _ _=>k b u q
 slot:=fun b u q _ _ _=>⟨u.slots,k b u q⟩
 free:=fun b u q n _=>by rw[aF (Nat.ne_of_lt (Nat.lt_of_lt_of_le (Heap.lt_size q) hp))];exact n
 there:=fun b u q _=>⟨u,k b u q⟩
 tups:=fun b xs q=>by rw[aF (aH q hn)];exact q
 frzs:=fun b u xs q=>by rw[aF (aH q hn)];exact q
 tbls:=fun b ps q=>⟨#[],by rw[aF (aH q hn),q];simp⟩
theorem Un.write(mu:Mut (H x))(he:e=x∨H e=some (.own x))(k:∀b u,b≠e→h.get? b=some u→h'.get? b=some u)(heo:∃u,h'.get? e=some u):Un fs ex H (upd H x o) h h':=by
 have hx:∀b,H b=none→b≠x:=fun b n z=>by subst z;rw[n] at mu;exact mu
 have hb:∀b,H b=none→b≠e:=fun b n z=>by
  subst z
  rcases he with r|r
  ·exact hx b n r
  ·rw[n] at r;cases r
 have hm:∀b u,H b=some u→¬ Mut (some u)→b≠x:=fun b u q nm z=>by subst z;rw[q] at mu;exact nm mu
 refine⟨fun b u q n _ _=>k b u (hb b n) q,fun b u q n _ _=>⟨u.slots,k b u (hb b n) q⟩,fun b u q n _=>by rw[aF (hx b n)];exact n,fun b u q _=>?_,
  fun b xs q=>by rw[aF (hm b _ q fun z=>z)];exact q,fun b u xs q=>by rw[aF (hm b _ q fun z=>z)];exact q,fun b ps q=>⟨#[],by rw[aF (hm b _ q fun z=>z),q];simp⟩⟩
 by_cases hbe:b=e
 ·subst hbe;exact heo
 ·exact⟨u,k b u hbe q⟩
end
def trk(h:Heap)(H:Hp):List Addr:=(List.range h.objs.size).filter fun a=>(H a).isSome
def hidT(h:Heap)(H:Hp):Heap:=PySem.W.hideAll h (trk h H)
theorem aAb(h:Heap)(H:Hp):(hidT h H).objs.size=h.objs.size:=PySem.W.hideAll_size _ _
theorem aBq{h:Heap}{H:Hp}{b:Addr}{o:Obj}(e:h.get? b=some o)(n:H b=none):(hidT h H).get? b=some o:=
 PySem.W.hideAll_get _ e fun hm=>by
  have q:(H b).isSome=true:=(List.mem_filter.mp hm).2
  rw[n] at q;simp at q
theorem aCC{h:Heap}{H:Hp}{b:Addr}{o:Obj}(e:(hidT h H).get? b=some o):h.get? b=some o∧H b=none:=by
 have e':h.get? b=some o:=PySem.W.of_hideAll (trk h H) e
 refine⟨e',?_⟩
 cases q:H b with
 |none=>rfl
 |some x=>
  have hm:b∈trk h H:=List.mem_filter.mpr ⟨List.mem_range.mpr (Heap.lt_size e'),by simp[q]⟩
  have z:(hidT h H).get? b=none:=PySem.W.hideAll_none (trk h H) hm
  rw[z] at e;cases e
def gK(g h:Heap)(L:Addr):List (Addr×Obj):=(List.range h.objs.size).filterMap fun a=>if a=L∨(g.get? a).isSome=true then none else (h.get? a).map fun o=>(a,o)
theorem jB{g h:Heap}{L a:Addr}{o:Obj}(h1:a≠L)(h2:g.get? a=none)(h3:h.get? a=some o):(a,o)∈gK g h L:=
 List.mem_filterMap.mpr ⟨a,List.mem_range.mpr (Heap.lt_size h3),by simp[h1,h2,h3]⟩
theorem pF{g h:Heap}{L:Addr}{p:Addr×Obj}(hp:p∈gK g h L):p.1≠L∧g.get? p.1=none∧h.get? p.1=some p.2:=by
 obtain⟨b,_,e⟩:=List.mem_filterMap.mp hp
 split at e
 ·cases e
 ·rename_i hn
  cases q:h.get? b with
  |none=>rw[q] at e;simp at e
  |some u=>
   rw[q] at e
   simp only[Option.map_some,Option.some.injEq] at e
   subst e
   refine⟨fun z=>hn (.inl z),?_,q⟩
   show g.get? b=none
   cases r:g.get? b with
   |none=>rfl
   |some v=>exact(hn (.inr (by simp[r]))).elim
theorem aBr{g h:Heap}{L:Addr}:News g L h (gK g h L):=fun p hp=>let ⟨a,b,c⟩:=pF hp;⟨c,a,b⟩
end L2
namespace L2
open PySem PySem.Spec PyProof.Rows
structure Mod(K:PySem.W.Frag)(mg:Str→Option Value)(base:Heap):Prop where
 kin:K.In base
 glob:base.Ns mainGlobals mg
 blt:∃mb,base.Ns builtinsNs mb∧∀x:Str,x≠"__name__"→mb x=bootBuiltins x
 nolimit:base.NoLimit
structure Cx where
 prog:Program
 w:World
 K:PySem.W.Frag
 mg:Str→Option Value
 base:Heap
 A:Around
 N:List Str
 s₀:Shared
 H₀:Hp
 env:Env
 outer:List Env
 stack:List Env
 ex:List Addr
 fn:Str→Bool
 calm:Bool
 pn:List (Addr×Obj)
 xe:Value→Shared→Prop
def frs(l:List Env):List Addr:=l.filterMap (·.frame)
abbrev Cx.fs(X:Cx):List Addr:=frs X.outer
def Vis(sc:Scope)(x:Str):Prop:=sc.names.lookup x=some .local∨sc.names.lookup x=some .cell∨sc.names.lookup x=some .free
def Loc(sc:Scope)(x:Str):Prop:=sc.names.lookup x=some .local∨sc.names.lookup x=some .cell
def Look(env:Env)(h:Heap)(m:Str→Option Value)(x:Str)(u:Value):Prop:=
 (env.kindOf x=some .local∧m x=some u)∨((env.kindOf x=some .cell∨env.kindOf x=some .free)∧∃c,env.cells.lookup x=some c∧h.IsCell c (some u))
structure Cx.Ok(X:Cx):Prop where
 mod:Mod X.K X.mg X.base
 kind:X.env.scope.kind=.function
 glob:X.env.globals=mainGlobals
 blt:X.env.builtins=builtinsNs
 above:X.s₀.heap.objs.size≤X.env.locals
 inj:∀x y c,X.env.cells.lookup x=some c→X.env.cells.lookup y=some c→x=y
 has:∀x,(X.env.kindOf x=some .cell∨X.env.kindOf x=some .free)→∃c,X.env.cells.lookup x=some c
 cab:∀x c,X.fn x=true→X.env.cells.lookup x=some c→X.s₀.heap.objs.size≤c
 hd:X.calm=true→X.A.handled=none
 frames:X.A.frames=some X.stack
 stk:X.stack=X.outer∨(X.stack=X.env::X.outer∧X.env.frame=some X.env.locals)
 exf:∀b∈X.ex,b≠X.env.locals∧∀x c,X.env.cells.lookup x=some c→c≠b
 bs:∀b o,X.base.get? b=some o→X.s₀.heap.get? b=some o∧X.H₀ b=none
 bsz:X.base.objs.size≤X.s₀.heap.objs.size
 noex:∀b o,X.base.get? b=some o→b∉X.ex
 exfs:∀b∈X.ex,b∉X.fs
 funs:X.s₀.heap.FunFrames X.base X.outer
 frf:∀b∈X.fs,X.H₀ b=none
structure Inv(X:Cx)(pins:List (Addr×Obj))(σ:List (Option V))(H:Hp)(s:Shared):Prop where
 ok:X.Ok
 os:s.os=X.s₀.os
 bare:AllBare s.gens
 base:Un X.fs X.ex X.H₀ H X.s₀.heap s.heap
 loc:∃m,s.heap.Ns X.env.locals m∧∀ (i:Nat) (x:Str) (v:V),X.N[i]?=some x→σ[i]?=some (some v)→Vis X.env.scope x→∃u,RelV v u∧Look X.env s.heap m x u
 cell:∀x c,X.env.cells.lookup x=some c→∃v,s.heap.IsCell c v
 free:H X.env.locals=none
 freeC:∀x c,X.env.cells.lookup x=some c→H c=none
 pin:∀p∈X.pn++pins,s.heap.get? p.1=some p.2∧H p.1=none∧p.1≠X.env.locals∧p.1∉X.fs∧∀v,p.2.data≠.cell v
 hok:HOk X.prog X.w H s.heap
 len:σ.length=X.N.length
section
variable {X:Cx} {pins:List (Addr×Obj)} {σ:List (Option V)} {H H':Hp} {s:Shared} {h':Heap}
theorem Cx.Ok.nofr(ok:X.Ok){b:Addr}{o:Obj}(e:X.base.get? b=some o):b∉X.fs:=fun hb=>by
 have:=(ok.funs.mem hb).1
 rw[e] at this;cases this
theorem Inv.bs(I:Inv X pins σ H s):∀b o,X.base.get? b=some o→s.heap.get? b=some o∧H b=none:=fun b o e=>
 ⟨I.base.keep b o (I.ok.bs b o e).1 (I.ok.bs b o e).2 (I.ok.nofr e) (I.ok.noex b o e),I.base.free b o (I.ok.bs b o e).1 (I.ok.bs b o e).2 (I.ok.noex b o e)⟩
theorem Inv.bk(I:Inv X pins σ H s):∀b o,X.base.get? b=some o→s.heap.get? b=some o:=fun b o e=>(I.bs b o e).1
theorem Inv.mod(I:Inv X pins σ H s):Mod X.K X.mg X.base:=I.ok.mod
theorem Inv.kIn(I:Inv X pins σ H s):X.K.In s.heap:=I.ok.mod.kin.keeps I.bk
theorem Inv.fr(I:Inv X pins σ H s):∃m,Fr X.base X.env.locals s.heap m:=
 let ⟨m,hn,_⟩:=I.loc
 ⟨m,hn,I.bk,Nat.le_trans I.ok.bsz I.ok.above⟩
theorem Inv.lt(I:Inv X pins σ H s):X.env.locals<s.heap.objs.size:=let ⟨_,hn,_⟩:=I.loc;hn.lt
theorem Inv.sz(I:Inv X pins σ H s):X.s₀.heap.objs.size≤s.heap.objs.size:=Nat.le_trans I.ok.above (Nat.le_of_lt I.lt)
theorem Inv.nofs(I:Inv X pins σ H s){a:Addr}(h:s.heap.objs.size≤a):a∉X.fs:=fun hb=>by
 obtain⟨_,o,ho,_⟩:=I.ok.funs.mem hb
 exact absurd (Nat.lt_of_lt_of_le (Heap.lt_size ho) (Nat.le_trans I.sz h)) (Nat.lt_irrefl _)
theorem Inv.cne(I:Inv X pins σ H s):∀x c,X.env.cells.lookup x=some c→c≠X.env.locals:=fun x c e z=>by
 obtain⟨v,o,ho,hd⟩:=I.cell x c e
 obtain⟨m,⟨o',es,ep,ho',hd',_⟩,_⟩:=I.loc
 rw[z,ho'] at ho;cases ho;rw[hd'] at hd;cases hd
theorem Inv.funs(I:Inv X pins σ H s):s.heap.FunFrames X.base X.outer:=by
 have all:∀ (l:List Env),(∀b∈frs l,b∈X.fs)→X.s₀.heap.FunFrames X.base l→s.heap.FunFrames X.base l:=by
  intro l
  induction l with
  |nil=>intro _ _;trivial
  |cons env r ih=>
   intro hs hl
   obtain⟨hk,⟨L,o,hf,hn,ho,hd⟩,hr⟩:=hl
   have hL:L∈X.fs:=hs L (by unfold frs;rw[List.filterMap_cons,hf];exact List.mem_cons_self)
   obtain⟨sl,e⟩:=I.base.slot L o ho (I.ok.frf L hL) hL fun z=>I.ok.exfs L z hL
   exact⟨hk,⟨L,_,hf,hn,e,hd⟩,ih (fun b hb=>hs b (by unfold frs;rw[List.filterMap_cons,hf];exact List.mem_cons_of_mem _ hb)) hr⟩
 exact all X.outer (fun _ hb=>hb) I.ok.funs
theorem Inv.stack(I:Inv X pins σ H s):s.heap.FunFrames X.base X.stack:=by
 rcases I.ok.stk with e|⟨e,hf⟩
 ·rw[e];exact I.funs
 ·rw[e]
  obtain⟨m,hn,_⟩:=I.loc
  refine .cons (by rw[I.ok.kind];decide) hf hn ?_ I.funs
  exact Heap.get?_none_of_le (Nat.le_trans I.ok.bsz I.ok.above)
theorem Inv.stkSub(I:Inv X pins σ H s):∀b∈frs X.stack,b∈X.env.locals::X.fs:=fun b hb=>by
 rcases I.ok.stk with e|⟨e,hf⟩
 ·rw[e] at hb;exact List.mem_cons_of_mem _ hb
 ·rw[e] at hb
  unfold frs at hb
  rw[List.filterMap_cons,hf] at hb
  exact hb
theorem Inv.stkFree(I:Inv X pins σ H s):∀b∈frs X.stack,H b=none:=fun b hb=>by
 rcases List.mem_cons.mp (I.stkSub b hb) with e|hb
 ·rw[e];exact I.free
 ·obtain⟨_,o,ho,_⟩:=I.ok.funs.mem hb
  exact I.base.free b o ho (I.ok.frf b hb) fun z=>I.ok.exfs b z hb
theorem Inv.step{g':Array GenState}{t':Nat}{d':Drawn}{ch:List Addr}(I:Inv X pins σ H s)(hch:∀b∈ch,(b∈X.ex∨X.s₀.heap.objs.size≤b)∧b≠X.env.locals∧(∀x c,X.env.cells.lookup x=some c→c≠b)∧∀p∈X.pn++pins,p.1≠b)(keep:∀b o,b≠X.env.locals→b∉X.fs→b∉ch→s.heap.get? b=some o→H b=none→h'.get? b=some o)(slot:∀b o,b≠X.env.locals→b∈X.fs→b∉ch→s.heap.get? b=some o→H b=none→∃sl,h'.get? b=some { o with slots:=sl })(free:∀b o,b∉ch→s.heap.get? b=some o→H b=none→H' b=none)(there:∀b o,b∉ch→s.heap.get? b=some o→∃o',h'.get? b=some o')(tups:∀b xs,H b=some (.tup xs)→H' b=some (.tup xs))(frzs:∀b o u,H b=some (.frz o u)→H' b=some (.frz o u))(tbls:∀b ps,H b=some (.tbl ps)→∃more,H' b=some (.tbl (ps++more)))(ns:∀m,s.heap.Ns X.env.locals m→h'.Ns X.env.locals m)(hok:HOk X.prog X.w H' h')(hg:AllBare g'):
  Inv X pins σ H' { s with heap:=h',gens:=g',drawn:=d',toks:=t' }:=by
 have neL:∀b o,X.s₀.heap.get? b=some o→b≠X.env.locals:=fun b o e=>Nat.ne_of_lt (Nat.lt_of_lt_of_le (Heap.lt_size e) I.ok.above)
 have neC:∀b o,X.s₀.heap.get? b=some o→b∉X.ex→b∉ch:=fun b o e hx hb=>by
  rcases(hch b hb).1 with z|z
  ·exact hx z
  ·exact absurd (Nat.lt_of_lt_of_le (Heap.lt_size e) z) (Nat.lt_irrefl _)
 have cellK:∀x c,X.env.cells.lookup x=some c→∀v,s.heap.IsCell c v→h'.IsCell c v:=fun x c e v ⟨o,ho,hd⟩=>by
  have nch:c∉ch:=fun z=>(hch c z).2.2.1 x c e rfl
  by_cases hc:c∈X.fs
  ·obtain⟨sl,q⟩:=slot c o (I.cne x c e) hc nch ho (I.freeC x c e)
   exact⟨_,q,hd⟩
  ·exact⟨o,keep c o (I.cne x c e) hc nch ho (I.freeC x c e),hd⟩
 refine⟨I.ok,I.os,hg,⟨fun b o e n hb hx=>?_,fun b o e n hb hx=>?_,fun b o e n hx=>?_,fun b o e hx=>?_,fun b xs e=>tups b xs (I.base.tups b xs e),fun b o xs e=>frzs b o xs (I.base.frzs b o xs e),fun b ps e=>?_⟩,?_,fun x c e=>?_,?_,fun x c e=>?_,fun p hp=>?_,hok,I.len⟩
 ·exact keep b o (neL b o e) hb (neC b o e hx) (I.base.keep b o e n hb hx) (I.base.free b o e n hx)
 ·obtain⟨sl,e1⟩:=I.base.slot b o e n hb hx
  obtain⟨sl',e2⟩:=slot b _ (neL b o e) hb (neC b o e hx) e1 (I.base.free b o e n hx)
  exact⟨sl',e2⟩
 ·obtain⟨o',e1⟩:=I.base.there b o e hx
  exact free b o' (neC b o e hx) e1 (I.base.free b o e n hx)
 ·obtain⟨o',e1⟩:=I.base.there b o e hx
  exact there b o' (neC b o e hx) e1
 ·obtain⟨m1,e1⟩:=I.base.tbls b ps e
  obtain⟨m2,e2⟩:=tbls b _ e1
  exact⟨m1++m2,by rw[e2,Array.append_assoc]⟩
 ·obtain⟨m,hn,hl⟩:=I.loc
  refine⟨m,ns m hn,fun i x v e1 e2 e3=>?_⟩
  obtain⟨u,r,l⟩:=hl i x v e1 e2 e3
  refine⟨u,r,?_⟩
  rcases l with l|⟨k,c,e,z⟩
  ·exact .inl l
  ·exact .inr ⟨k,c,e,cellK x c e _ z⟩
 ·obtain⟨v,z⟩:=I.cell x c e
  exact⟨v,cellK x c e v z⟩
 ·obtain⟨m,⟨o,_,_,ho,_⟩,_⟩:=I.loc
  exact free _ o (fun z=>(hch _ z).2.1 rfl) ho I.free
 ·obtain⟨v,o,ho,hd⟩:=I.cell x c e
  exact free c o (fun z=>(hch c z).2.2.1 x c e rfl) ho (I.freeC x c e)
 ·obtain⟨e,n,ne,nf,d⟩:=I.pin p hp
  have nch:p.1∉ch:=fun z=>(hch p.1 z).2.2.2 p hp rfl
  exact⟨keep p.1 p.2 ne nf nch e n,free p.1 p.2 nch e n,ne,nf,d⟩
theorem Inv.un{t':Nat}(I:Inv X pins σ H s)(u:Un X.fs [] H H' s.heap h')(hok:HOk X.prog X.w H' h'):Inv X pins σ H' { s with heap:=h',toks:=t' }:=by
 obtain⟨m,⟨o,es,ep,ho,r⟩,_⟩:=id I.loc
 obtain⟨sl,hL⟩:=u.any ho I.free (by simp)
 exact I.step (g':=s.gens) (d':=s.drawn) (ch:=[]) (fun _ z=>nomatch z) (fun b o _ hb _ e n=>u.keep b o e n hb (by simp)) (fun b o _ hb _ e n=>u.slot b o e n hb (by simp)) (fun b o _ e n=>u.free b o e n (by simp)) (fun b o _ e=>u.there b o e (by simp)) u.tups u.frzs u.tbls (fun m' hm=>by
  obtain⟨o',es',ep',ho',r'⟩:=hm
  rw[ho] at ho';cases ho'
  exact⟨_,es',ep',hL,r'⟩) hok I.bare
theorem Inv.call{g':Array GenState}{t':Nat}{d':Drawn}{ch:List Addr}(I:Inv X pins σ H s)(u:Un (frs X.stack) ch H H' s.heap h')(hok:HOk X.prog X.w H' h')(hg:AllBare g')(hch:∀b∈ch,(b∈X.ex∨X.s₀.heap.objs.size≤b)∧b≠X.env.locals∧(∀x c,X.env.cells.lookup x=some c→c≠b)∧∀p∈X.pn++pins,p.1≠b):
  Inv X pins σ H' { s with heap:=h',gens:=g',drawn:=d',toks:=t' }:=by
 obtain⟨m,⟨o,es,ep,ho,r⟩,_⟩:=id I.loc
 obtain⟨sl,hL⟩:=u.any ho I.free fun z=>(hch _ z).2.1 rfl
 exact I.step (ch:=ch) hch (fun b o hL hb hc e n=>u.keep b o e n (fun z=>(List.mem_cons.mp (I.stkSub b z)).elim hL hb) hc) (fun b o _ _ hc e n=>u.any e n hc) (fun b o hc e n=>u.free b o e n hc) (fun b o hc e=>u.there b o e hc) u.tups u.frzs u.tbls (fun m' hm=>by
  obtain⟨o',es',ep',ho',r'⟩:=hm
  rw[ho] at ho';cases ho'
  exact⟨_,es',ep',hL,r'⟩) hok hg
theorem Inv.turned{t':Nat}{it:Addr}(I:Inv X pins σ H s)(k:∀b o,b≠it→s.heap.get? b=some o→h'.get? b=some o)(hn:H it=none)(hL:it≠X.env.locals)(h1:it∈X.ex∨X.s₀.heap.objs.size≤it)(h2:∀x c,X.env.cells.lookup x=some c→c≠it)(h3:∀p∈X.pn++pins,p.1≠it):Inv X pins σ H { s with heap:=h',toks:=t' }:=by
 have nit:∀b u,H b=some u→b≠it:=fun b u e z=>by rw[z,hn] at e;cases e
 refine I.step (g':=s.gens) (d':=s.drawn) (ch:=[it]) (fun b hb=>?_) (fun b o _ _ hc e _=>k b o (fun z=>hc (by simp[z])) e) (fun b o _ _ hc e _=>⟨o.slots,k b o (fun z=>hc (by simp[z])) e⟩) (fun _ _ _ _ n=>n)
  (fun b o hc e=>⟨o,k b o (fun z=>hc (by simp[z])) e⟩) (fun _ _ e=>e) (fun _ _ _ e=>e) (fun b ps e=>⟨#[],by rw[e];simp⟩) (fun m hm=>?_) (fun b u e=>?_) I.bare
 ·have e:b=it:=by simpa using hb
  subst e
  exact⟨h1,hL,h2,h3⟩
 ·obtain⟨o,es,ep,ho,r⟩:=hm
  exact⟨o,es,ep,k _ o (Ne.symm hL) ho,r⟩
 ·refine(I.hok b u e).stay (fun c v hc q=>k c v ?_ q) (fun _ q=>q) fun _ _ q=>q
  rcases hc with z|z
  ·rw[z];exact nit b u e
  ·exact nit c _ z
theorem Inv.tok(I:Inv X pins σ H s)(t:Nat):Inv X pins σ H { s with toks:=t }:=I.un (h':=s.heap) (t':=t) Un.refl I.hok
theorem Inv.kept{t':Nat}(I:Inv X pins σ H s)(k:∀b u,s.heap.get? b=some u→h'.get? b=some u):Inv X pins σ H { s with heap:=h',toks:=t' }:=I.un (Un.kept k) (I.hok.kept k)
theorem Inv.laid{a:Addr}{o:HO}{t':Nat}(I:Inv X pins σ H s)(k:∀b u,s.heap.get? b=some u→h'.get? b=some u)(hp:s.heap.objs.size≤a)(new:bW X.prog X.w (upd H a o) h' a o):
  Inv X pins σ (upd H a o) { s with heap:=h',toks:=t' }:=I.un (Un.laid k hp (I.hok.fresh hp)) (I.hok.laid k hp new)
theorem Inv.write{x e:Addr}{o:HO}{t':Nat}(I:Inv X pins σ H s)(mu:Mut (H x))(he:e=x∨H e=some (.own x))(k:∀b u,b≠e→s.heap.get? b=some u→h'.get? b=some u)(heo:∃u,h'.get? e=some u)(new:bW X.prog X.w (upd H x o) h' x o):Inv X pins σ (upd H x o) { s with heap:=h',toks:=t' }:=I.un (Un.write mu he k heo) (I.hok.write mu he k heo new)
theorem Inv.pins_of{pins':List (Addr×Obj)}(I:Inv X pins σ H s)(h:∀p∈pins',s.heap.get? p.1=some p.2∧H p.1=none∧p.1≠X.env.locals∧p.1∉X.fs∧∀v,p.2.data≠.cell v):Inv X pins' σ H s:=
 ⟨I.ok,I.os,I.bare,I.base,I.loc,I.cell,I.free,I.freeC,fun p hp=>(List.mem_append.mp hp).elim (fun z=>I.pin p (List.mem_append_left _ z)) (h p),I.hok,I.len⟩
theorem rY{N:List Str}(hN:N.Nodup){i j:Nat}{x:Str}(a:N[i]?=some x)(b:N[j]?=some x):i=j:=by
 obtain⟨h1,e1⟩:=List.getElem?_eq_some_iff.mp a
 obtain⟨h2,e2⟩:=List.getElem?_eq_some_iff.mp b
 exact(List.getElem_inj hN).mp (e1.trans e2.symm)
theorem qK{M:Model}{A:Around}{E:Value→Shared→Prop}{i:Nat}{x:Str}{v:V}{u:Value}{Q:Unit→Shared→Prop}(I:Inv X pins σ H s)(hN:X.N.Nodup)(hi:X.N[i]?=some x)(hx:Loc X.env.scope x)(r:RelV v u)(h:∀s',Inv X pins (σ.set i (some v)) H s'→(∃a,Heap.SameBut a s.heap s'.heap∧(a=X.env.locals∨X.env.cells.lookup x=some a))→Q () s')(hf:X.fn x=true∨X.env.scope.names.lookup x=some .local:=by first|exact .inl rfl|exact .inr rfl|assumption):wpAny M A (storeName X.env x u) Q E s:=by
 obtain⟨m,hn,hl⟩:=id I.loc
 have hcls:(X.env.scope.kind==.class||(X.env.scope.kind==.module&&X.env.locals != X.env.globals))=false:=by rw[I.ok.kind];rfl
 have hiσ:i<σ.length:=by rw[I.len];exact(List.getElem?_eq_some_iff.mp hi).1
 have cne:=I.cne
 have tracked:∀ {a:Addr} {h':Heap},(∃o,s.heap.get? a=some o∧H a=none)→Heap.SameBut a s.heap h'→HOk X.prog X.w H h':=fun {a h'} ha hs b ob e=>by
  obtain⟨_,_,hfree⟩:=ha
  refine(I.hok b ob e).stay (fun c w' hc q=>(hs.2 c ?_).trans q) (fun _ q=>q) fun _ _ q=>q
  rintro rfl
  rcases hc with rfl|hc
  ·rw[hfree] at e;cases e
  ·rw[hfree] at hc;cases hc
 rcases hx with hk|hk
 ·refine wpAny_storeName_local hk hn (fun h' hn' hs=>?_) hcls
  obtain⟨oL,_,_,hoL,_⟩:=id hn
  refine h _ ⟨I.ok,I.os,I.bare,⟨fun b o e n hb hx=>?_,fun b o e n hb hx=>?_,I.base.free,fun b o e hx=>?_,I.base.tups,I.base.frzs,I.base.tbls⟩,⟨_,hn',fun j y v' e1 e2 e3=>?_⟩,fun y c e=>?_,I.free,I.freeC,fun p hp=>?_,tracked ⟨oL,hoL,I.free⟩ hs,by simpa using I.len⟩ ⟨_,hs,.inl rfl⟩
  ·exact(hs.2 b (Nat.ne_of_lt (Nat.lt_of_lt_of_le (Heap.lt_size e) I.ok.above))).trans (I.base.keep b o e n hb hx)
  ·obtain⟨sl,e1⟩:=I.base.slot b o e n hb hx
   exact⟨sl,(hs.2 b (Nat.ne_of_lt (Nat.lt_of_lt_of_le (Heap.lt_size e) I.ok.above))).trans e1⟩
  ·obtain⟨o',e1⟩:=I.base.there b o e hx
   exact⟨o',(hs.2 b (Nat.ne_of_lt (Nat.lt_of_lt_of_le (Heap.lt_size e) I.ok.above))).trans e1⟩
  ·by_cases hj:j=i
   ·subst hj
    rw[hi] at e1;cases e1
    rw[List.getElem?_set_self hiσ] at e2
    cases e2
    exact⟨u,r,.inl ⟨hk,by simp⟩⟩
   ·rw[List.getElem?_set_ne (Ne.symm hj)] at e2
    obtain⟨u',r',q⟩:=hl j y v' e1 e2 e3
    refine⟨u',r',?_⟩
    rcases q with ⟨k,e⟩|⟨k,c,e,z⟩
    ·refine .inl ⟨k,?_⟩
     have:y≠x:=fun e=>hj (rY hN e1 (e ▸ hi))
     simp[this,e]
    ·exact .inr ⟨k,c,e,z.sameBut hs (cne y c e)⟩
  ·obtain⟨w',z⟩:=I.cell y c e
   exact⟨w',z.sameBut hs (cne y c e)⟩
  ·obtain⟨e,n,ne,nf,d⟩:=I.pin p hp
   exact⟨(hs.2 p.1 ne).trans e,n,ne,nf,d⟩
 ·have hfn:X.fn x=true:=by
   rcases hf with z|z
   ·exact z
   ·rw[z] at hk;cases hk
  obtain⟨c,hc⟩:=I.ok.has x (.inl hk)
  obtain⟨w',z⟩:=I.cell x c hc
  refine wpAny_storeName_cell I.ok.kind hk hc z (fun h' hc' hs=>?_)
  obtain⟨oc,hoc,hocd⟩:=id z
  refine h { s with heap:=h' } ⟨I.ok,I.os,I.bare,⟨fun b o e n hb hx=>?_,fun b o e n hb hx=>?_,I.base.free,fun b o e hx=>?_,I.base.tups,I.base.frzs,I.base.tbls⟩,⟨m,hn.sameBut hs (Ne.symm (cne x c hc)),fun j y v' e1 e2 e3=>?_⟩,fun y c' e=>?_,I.free,I.freeC,fun p hp=>?_,tracked ⟨oc,hoc,I.freeC x c hc⟩ hs,by simpa using I.len⟩ ⟨c,hs,.inr hc⟩
  ·exact(hs.2 b (Nat.ne_of_lt (Nat.lt_of_lt_of_le (Heap.lt_size e) (I.ok.cab x c hfn hc)))).trans (I.base.keep b o e n hb hx)
  ·obtain⟨sl,e1⟩:=I.base.slot b o e n hb hx
   exact⟨sl,(hs.2 b (Nat.ne_of_lt (Nat.lt_of_lt_of_le (Heap.lt_size e) (I.ok.cab x c hfn hc)))).trans e1⟩
  ·obtain⟨o',e1⟩:=I.base.there b o e hx
   exact⟨o',(hs.2 b (Nat.ne_of_lt (Nat.lt_of_lt_of_le (Heap.lt_size e) (I.ok.cab x c hfn hc)))).trans e1⟩
  ·by_cases hj:j=i
   ·subst hj
    rw[hi] at e1;cases e1
    rw[List.getElem?_set_self hiσ] at e2
    cases e2
    exact⟨u,r,.inr ⟨.inl hk,c,hc,hc'⟩⟩
   ·rw[List.getElem?_set_ne (Ne.symm hj)] at e2
    obtain⟨u',r',q⟩:=hl j y v' e1 e2 e3
    refine⟨u',r',?_⟩
    rcases q with q|⟨k,c',e,z'⟩
    ·exact .inl q
    ·refine .inr ⟨k,c',e,z'.sameBut hs ?_⟩
     rintro rfl
     exact hj (rY hN e1 (I.ok.inj _ _ _ e hc ▸ hi))
  ·by_cases hcc:c'=c
   ·subst hcc;exact⟨_,hc'⟩
   ·obtain⟨w2,z2⟩:=I.cell y c' e
    exact⟨w2,z2.sameBut hs hcc⟩
  ·obtain⟨e,n,ne,nf,d⟩:=I.pin p hp
   refine⟨(hs.2 p.1 ?_).trans e,n,ne,nf,d⟩
   intro q
   rw[q,hoc] at e
   have q':oc=p.2:=Option.some.inj e
   exact d w' (by rw[← q'];exact hocd)
theorem iH{M:Model}{A:Around}{E:Value→Shared→Prop}{i:Nat}{x:Str}{v:V}{u:Value}{Q:Unit→Shared→Prop}(I:Inv X pins σ H s)(hN:X.N.Nodup)(hi:X.N[i]?=some x)(hx:Loc X.env.scope x)(r:RelV v u)(h:∀s',Inv X pins (σ.set i (some v)) H s'→Q () s')(hf:X.fn x=true∨X.env.scope.names.lookup x=some .local:=by first|exact .inl rfl|exact .inr rfl|assumption):wpAny M A (storeName X.env x u) Q E s:=
 qK I hN hi hx r (fun s' I' _=>h s' I') hf
theorem Inv.call'{s':Shared}{ch:List Addr}(I:Inv X pins σ H s)(ho:s'.os=s.os)(u:Un (frs X.stack) ch H H' s.heap s'.heap)(hok:HOk X.prog X.w H' s'.heap)(hg:AllBare s'.gens)(hch:∀b∈ch,(b∈X.ex∨X.s₀.heap.objs.size≤b)∧b≠X.env.locals∧(∀x c,X.env.cells.lookup x=some c→c≠b)∧∀p∈X.pn++pins,p.1≠b):Inv X pins σ H' s':=by
 obtain⟨h',g',d',t',o'⟩:=s'
 have e:o'=s.os:=ho
 subst e
 exact I.call (g':=g') (t':=t') (d':=d') u hok hg hch
end
abbrev XK:=Value→Option Addr→Hp→Prop
abbrev St:=List (Option V)
abbrev VK:=V→Hp→Prop
abbrev TE:=St→Hp→VK→Prop
abbrev TT:=St→Hp→(Bool→Hp→Prop)→Prop
abbrev TA:=St→Hp→(List V→Hp→Prop)→Prop
structure Ends where
 nx:St→Hp→Prop
 rt:VK
 bk:St→Hp→Prop:=fun _ _=>False
 ct:St→Hp→Prop:=fun _ _=>False
abbrev TS:=Ends→St→Hp→Prop
def EP(X:Cx)(pins:List (Addr×Obj))(σ:St)(Q:VK)(u:Value)(s':Shared):Prop:=∃v H',Inv X pins σ H' s'∧RelV v u∧Q v H'
def TP(X:Cx)(pins:List (Addr×Obj))(σ:St)(Q:Bool→Hp→Prop)(b:Bool)(s':Shared):Prop:=∃H',Inv X pins σ H' s'∧Q b H'
def AP(X:Cx)(pins:List (Addr×Obj))(σ:St)(Q:List V→Hp→Prop)(us:List Value)(s':Shared):Prop:=∃vs H',Inv X pins σ H' s'∧Vals vs us∧Q vs H'
def SP(X:Cx)(pins:List (Addr×Obj))(D:Ends)(f:Flow)(s':Shared):Prop:=
 match f with
 |.next=>∃σ' H',Inv X pins σ' H' s'∧D.nx σ' H'
 |.brk=>∃σ' H',Inv X pins σ' H' s'∧D.bk σ' H'
 |.cont=>∃σ' H',Inv X pins σ' H' s'∧D.ct σ' H'
 |.ret u=>∃v σ' H',Inv X pins σ' H' s'∧RelV v u∧D.rt v H'
def PE(X:Cx)(e:Expr)(t:TE):Prop:=
 ∀ (pins:List (Addr×Obj)) (s:Shared) (σ:St) (H:Hp) (Q:VK),Inv X pins σ H s→t σ H Q→wpAny (model X.prog X.w) X.A (eval e X.env) (EP X pins σ Q) X.xe s
def PT(X:Cx)(e:Expr)(t:TT):Prop:=
 ∀ (pins:List (Addr×Obj)) (s:Shared) (σ:St) (H:Hp) (Q:Bool→Hp→Prop),Inv X pins σ H s→t σ H Q→wpAny (model X.prog X.w) X.A (isTrue e X.env (eval e X.env)) (TP X pins σ Q) X.xe s
def PW(X:Cx)(e:Expr)(t:TT):Prop:=
 ∀ (whole:Sem Value) (pins:List (Addr×Obj)) (s:Shared) (σ:St) (H:Hp) (Q:Bool→Hp→Prop),Inv X pins σ H s→t σ H Q→wpAny (model X.prog X.w) X.A (isTrue e X.env whole) (TP X pins σ Q) X.xe s
theorem PW.pt{X:Cx}{e:Expr}{t:TT}(h:PW X e t):PT X e t:=h _
def PA(X:Cx)(es:List Expr)(t:TA):Prop:=
 ∀ (pos:Pos) (pins:List (Addr×Obj)) (s:Shared) (σ:St) (H:Hp) (Q:List V→Hp→Prop),Inv X pins σ H s→t σ H Q→wpAny (model X.prog X.w) X.A (spliced (backTo pos (starEach es X.env))) (AP X pins σ Q) X.xe s
def PS(X:Cx)(st:Stmt)(t:TS):Prop:=
 ∀ (pins:List (Addr×Obj)) (s:Shared) (σ:St) (H:Hp) (D:Ends),Inv X pins σ H s→t D σ H→wpAny (model X.prog X.w) X.A (exec st X.env) (SP X pins D) X.xe s
def PSs(X:Cx)(st:List Stmt)(t:TS):Prop:=
 ∀ (pins:List (Addr×Obj)) (s:Shared) (σ:St) (H:Hp) (D:Ends),Inv X pins σ H s→t D σ H→wpAny (model X.prog X.w) X.A (execs st X.env) (SP X pins D) X.xe s
theorem thn{α:Type}{t:Sem α}{Q Q':α→Shared→Prop}{M:Model}{A:Around}{E:Value→Shared→Prop}{s:Shared}(h:wpAny M A t Q E s)(hQ:∀a s,Q a s→Q' a s):wpAny M A t Q' E s:=wpAny_mono h hQ fun _ _ x=>x
end L2
namespace L2
open PySem PySem.Spec PyProof.Rows
section
variable {X:Cx}
def tVar(i:Nat):TE:=fun σ H Q=>∃v,σ[i]?=some (some v)∧Q v H
def tC(v:V):TE:=fun _ H Q=>Q v H
theorem aDL{i:Nat}{x:Str}{pos:Pos}(hN:X.N[i]?=some x)(hv:Vis X.env.scope x)(hd:(x==("__debug__":Str))=false:=by decide)(hcd:(x==("__classdict__":Str))=false:=by decide):PE X (.Name x pos) (tVar i):=by
 intro pins s σ H Q I h
 obtain⟨v,e,h⟩:=h
 obtain⟨m,hn,hl⟩:=I.loc
 obtain⟨u,r,l⟩:=hl i x v hN e hv
 have fin:EP X pins σ Q u s:=⟨v,H,I,r,h⟩
 rcases l with ⟨hk,hm⟩|⟨hk,c,hc,hcell⟩
 ·exact wpAny_Name (wpAny_loadName_local I.ok.kind hk hn hm fin) hd
 ·rcases hk with hk|hk
  ·exact wpAny_Name (wpAny_loadName_cell I.ok.kind hk hc hcell fin) hd
  ·exact wpAny_Name (wpAny_loadName_free I.ok.kind hk hc hcell fin hcd) hd
theorem aK{i j pos}:PE X (.Constant (.int i) j pos) (tC (.int i)):=fun _ _ _ H _ I h=>wpAny_Constant_int ⟨.int i,H,I.tok _,⟨_,rfl⟩,h⟩
theorem jX{b j pos}:PE X (.Constant (.bool b) j pos) (tC (.bl b)):=fun _ _ _ H _ I h=>Constant_bool ⟨.bl b,H,I,rfl,h⟩
theorem dQ{j pos}:PE X (.Constant .none j pos) (tC .non):=fun _ _ _ H _ I h=>Constant_none ⟨.non,H,I,rfl,h⟩
def Gl(X:Cx)(x:Str):Prop:=X.env.kindOf x=some .globalImplicit
theorem pG{E:Value→Shared→Prop}{pins:List (Addr×Obj)}{s:Shared}{σ:St}{H:Hp}{x:Str}{u:Value}{pos:Pos}{Q:Value→Shared→Prop}(I:Inv X pins σ H s)(hg:Gl X x)(hm:X.mg x=some u)(h:Q u s)(hd:(x==("__debug__":Str))=false:=by decide):wpAny (model X.prog X.w) X.A (eval (.Name x pos) X.env) Q E s:=
 Calls.Name_function_global I.ok.kind hg (Calls.loadGlobal_global (by rw[I.ok.glob];exact I.mod.glob.keeps I.bk) hm h) hd
theorem gY{E:Value→Shared→Prop}{pins:List (Addr×Obj)}{s:Shared}{σ:St}{H:Hp}{x:Str}{u:Value}{pos:Pos}{Q:Value→Shared→Prop}(I:Inv X pins σ H s)(hg:Gl X x)(hm:X.mg x=none)(hv:bootBuiltins x=some u)(h:Q u s)(hn:x≠"__name__":=by decide)(hd:(x==("__debug__":Str))=false:=by decide):wpAny (model X.prog X.w) X.A (eval (.Name x pos) X.env) Q E s:=by
 obtain⟨mb,h1,h2⟩:=I.mod.blt
 exact Calls.Name_function_global I.ok.kind hg (Calls.loadGlobal_builtin (by rw[I.ok.glob];exact I.mod.glob.keeps I.bk) hm (by rw[I.ok.blt];exact h1.keeps I.bk) ((h2 x hn).trans hv) h) hd
theorem pH{x:Str}{v:V}{u:Value}{pos:Pos}(hg:Gl X x)(hm:X.mg x=some u)(r:RelV v u)(hd:(x==("__debug__":Str))=false:=by decide):PE X (.Name x pos) (tC v):=
 fun _ _ _ H _ I h=>pG I hg hm ⟨v,H,I,r,h⟩ hd
theorem jG{x:Str}{v:V}{u:Value}{pos:Pos}(hg:Gl X x)(hm:X.mg x=none)(hv:bootBuiltins x=some u)(r:RelV v u)(hn:x≠"__name__":=by decide)(hd:(x==("__debug__":Str))=false:=by decide):PE X (.Name x pos) (tC v):=
 fun _ _ _ H _ I h=>gY I hg hm hv ⟨v,H,I,r,h⟩ hn hd
variable {a b:Expr} {ta tb:TE} {pos:Pos}
def PC(X:Cx)(op:CmpOp)(a b:Expr)(t:TE):Prop:=
 ∀ (pins:List (Addr×Obj)) (s:Shared) (σ:St) (H:Hp) (Q:VK),Inv X pins σ H s→t σ H Q→
  wpAny (model X.prog X.w) X.A (eval a X.env) (fun v s₁=>wpAny (model X.prog X.w) X.A (eval b X.env) (fun u s₂=>wpAny (model X.prog X.w) X.A (compareOp op v u) (EP X pins σ Q) X.xe s₂) X.xe s₁) X.xe s
def tB(t:TE):TT:=fun σ H Q=>t σ H fun x H1=>∃c,x=.bl c∧Q c H1
theorem aDM{op:CmpOp}{t:TE}(h:PC X op a b t)(h1:behindInMarks op b=false:=by first|exact nobehind _ (by decide) (by decide)|rfl):PT X (.Compare a [op] [b] pos) (tB t):=by
 intro pins s σ H Q I hw
 refine wpAny_isTrue_Compare1 (thn (h pins s σ H _ I hw) fun v s1 h1=>thn h1 fun u s2 h2=>thn h2 fun c s3 ⟨x,H1,I1,r1,q1⟩=>?_) h1
 obtain⟨d,rfl,q⟩:=q1
 cases r1
 exact wpAny_truthy_bool ⟨H1,I1,q⟩
theorem eU{e:Expr}{t:TE}(h:PE X e t)(he:∀whole,isTrue e X.env whole=(do let v ← whole;standAt e.pos;holding [v] (truthy v)):=by intro _;rfl):PT X e (tB t):=by
 intro pins s σ H Q I hw
 refine isTrue_plain (thn (h pins s σ H _ I hw) fun v s1 ⟨x,H1,I1,r1,q1⟩=>?_) (he _)
 obtain⟨d,rfl,q⟩:=q1
 cases r1
 exact wpAny_truthy_bool ⟨H1,I1,q⟩
variable {tA tB':TT} {rest:List Expr}
def tAnd(t u:TT):TT:=fun σ H Q=>t σ H fun c H1=>if c=true then u σ H1 Q else Q false H1
def tOr(t u:TT):TT:=fun σ H Q=>t σ H fun c H1=>if c=true then Q true H1 else u σ H1 Q
def tNot(t:TT):TT:=fun σ H Q=>t σ H fun c H1=>Q (!c) H1
theorem iA(ha:PT X a tA):PW X (.BoolOp .And [a] pos) tA:=by
 intro wh pins s σ H Q I h
 refine isTrue_and (thn (ha pins s σ H Q I h) fun c s1 e=>?_)
 cases c with
 |true=>exact isTrue_and_nil e
 |false=>exact e
theorem nU(ha:PT X a tA):PW X (.BoolOp .Or [a] pos) tA:=by
 intro wh pins s σ H Q I h
 refine isTrue_or (thn (ha pins s σ H Q I h) fun c s1 e=>?_)
 cases c with
 |false=>exact isTrue_or_nil e
 |true=>exact e
theorem iI(ha:PT X a tA)(hb:PW X (.BoolOp .And (b::rest) pos) tB'):PW X (.BoolOp .And (a::b::rest) pos) (tAnd tA tB'):=by
 intro wh pins s σ H Q I h
 refine isTrue_and (thn (ha pins s σ H _ I h) fun c s1 ⟨H1,I1,q1⟩=>?_)
 cases c with
 |true=>exact hb wh pins s1 σ H1 Q I1 q1
 |false=>exact⟨H1,I1,q1⟩
theorem nV(ha:PT X a tA)(hb:PW X (.BoolOp .Or (b::rest) pos) tB'):PW X (.BoolOp .Or (a::b::rest) pos) (tOr tA tB'):=by
 intro wh pins s σ H Q I h
 refine isTrue_or (thn (ha pins s σ H _ I h) fun c s1 ⟨H1,I1,q1⟩=>?_)
 cases c with
 |true=>exact⟨H1,I1,q1⟩
 |false=>exact hb wh pins s1 σ H1 Q I1 q1
theorem gZ(ha:PT X a tA):PT X (.UnaryOp .Not a pos) (tNot tA):=by
 intro pins s σ H Q I h
 exact isTrue_not (ha pins s σ H (fun c H1=>Q (!c) H1) I h)
def aEu(ta tb:TE):TE:=fun σ H Q=>ta σ H fun x H1=>∃c,x=.bl c∧if c=true then tb σ H1 Q else Q (.bl false) H1
def aEv(ta:TE):TE:=fun σ H Q=>ta σ H fun x H1=>∃c,x=.bl c∧Q (.bl (!c)) H1
theorem kO{op}{t:TE}(h:PE X a t):PE X (.BoolOp op [a] pos) t:=fun pins s σ H Q I hw=>BoolOp_one (h pins s σ H Q I hw)
theorem jH(ha:PE X a ta)(hb:PE X (.BoolOp .And (b::rest) pos) tb):PE X (.BoolOp .And (a::b::rest) pos) (aEu ta tb):=by
 intro pins s σ H Q I h
 refine BoolOp_and (thn (ha pins s σ H _ I h) fun v s1 ⟨x,H1,I1,r1,q1⟩=>?_)
 obtain⟨c,rfl,q1⟩:=q1
 cases r1
 refine wpAny_truthy_bool ?_
 cases c with
 |true=>exact hb pins s1 σ H1 Q I1 q1
 |false=>exact⟨.bl false,H1,I1,rfl,q1⟩
theorem aDN(ha:PE X a ta):PE X (.UnaryOp .Not a pos) (aEv ta):=by
 intro pins s σ H Q I h
 refine UnaryOp_ (thn (ha pins s σ H _ I h) fun v s1 ⟨x,H1,I1,r1,q1⟩=>?_)
 obtain⟨c,rfl,q1⟩:=q1
 cases r1
 exact not_of (wpAny_truthy_bool ⟨.bl (!c),H1,I1,rfl,q1⟩)
def tIf(t:TT)(ta tb:TE):TE:=fun σ H Q=>t σ H fun c H1=>if c=true then ta σ H1 Q else tb σ H1 Q
theorem aBs{c:Expr}(hc:PT X c tA)(ha:PE X a ta)(hb:PE X b tb):PE X (.IfExp c a b pos) (tIf tA ta tb):=by
 intro pins s σ H Q I h
 refine wpAny_IfExp (thn (hc pins s σ H _ I h) fun d s1 ⟨H1,I1,q1⟩=>?_)
 cases d with
 |true=>exact ha pins s1 σ H1 Q I1 q1
 |false=>exact hb pins s1 σ H1 Q I1 q1
end
end L2
namespace L2
open PySem PySem.Spec PyProof.Rows
def SqL(K:PySem.W.Frag)(H:Hp)(a:Addr)(xs:List V):Prop:=
 Rd H a (.lst xs)∨
  ∃ (o:Obj) (its:Array Value) (n:Nat),K.lookup a=some o∧o.cls=.type "list"∧o.dict=none∧o.data=.seq its n∧its.size≤sizeLine∧Vals xs its.toList
def SqT(K:PySem.W.Frag)(H:Hp)(a:Addr)(xs:List V):Prop:=
 Rd H a (.tup xs)∨
  ∃ (o:Obj) (its:Array Value) (n:Nat),K.lookup a=some o∧o.cls=.type "tuple"∧o.data=.seq its n∧its.size≤sizeLine∧Vals xs its.toList
def absV:Value→Option V
 |.none=>some .non
 |.bool b=>some (.bl b)
 |.int i _=>some (.int i)
 |.str x _=>some (.str x)
 |.bytes b _=>some (.byt b)
 |.float b _=>some (.flt b)
 |.ref a=>some (.ref a)
 |.type n=>some (.ty n)
 |_=>none
theorem RelV.abs{x:V}{u:Value}(r:RelV x u):absV u=some x:=by
 cases x with
 |non=>cases r;rfl
 |bl _=>cases r;rfl
 |int _=>obtain⟨t,rfl⟩:=r;rfl
 |str _=>obtain⟨t,rfl⟩:=r;rfl
 |byt _=>obtain⟨t,rfl⟩:=r;rfl
 |flt _=>obtain⟨t,rfl⟩:=r;rfl
 |ref _=>cases r;rfl
 |ty _=>cases r;rfl
theorem RelV.inj{x y:V}{u:Value}(r:RelV x u)(q:RelV y u):x=y:=Option.some.inj (r.abs.symm.trans q.abs)
theorem Vals.inj:∀ {xs ys:List V} {us:List Value},Vals xs us→Vals ys us→xs=ys
 |_,_,_,.nil,.nil=>rfl
 |_,_,_,.cons r t,.cons r' t'=>by rw[r.inj r',Vals.inj t t']
section
variable {X:Cx} {pins:List (Addr×Obj)} {σ:St} {H:Hp} {s:Shared} {a:Addr} {xs ys:List V}
theorem SqL.of{K:PySem.W.Frag}(h:H a=some (.lst xs)):SqL K H a xs:=.inl (.inl h)
theorem SqT.of{K:PySem.W.Frag}(h:H a=some (.tup xs)):SqT K H a xs:=.inl (.inl h)
theorem Inv.list(I:Inv X pins σ H s)(h:SqL X.K H a xs):∃its:List Value,Vals xs its∧PlainL s.heap a its.toArray∧xs.length≤sizeLine:=by
 rcases h with h|⟨o,its,n,hk,hc,hd,hs,hz,r⟩
 ·obtain⟨z,its,n,r,e⟩:=h.ok I.hok
  exact⟨its,r,⟨_,n,e,rfl,rfl,rfl⟩,z⟩
 ·refine⟨its.toList,r,⟨o,n,I.kIn a o hk,hc,hd,by simpa using hs⟩,?_⟩
  have e:=r.length
  simp only[Array.length_toList] at e
  lia
theorem Inv.tuple(I:Inv X pins σ H s)(h:SqT X.K H a xs):∃its:List Value,Vals xs its∧IsTup s.heap a its.toArray∧xs.length≤sizeLine:=by
 rcases h with h|⟨o,its,n,hk,hc,hs,hz,r⟩
 ·obtain⟨z,its,r,p⟩:=h.ok I.hok
  exact⟨its,r,p.tup,z⟩
 ·refine⟨its.toList,r,⟨o,I.kIn a o hk,hc,n,by simpa using hs⟩,?_⟩
  have e:=r.length
  simp only[Array.length_toList] at e
  lia
theorem Inv.list_inj(I:Inv X pins σ H s)(h:SqL X.K H a xs)(h':SqL X.K H a ys):xs=ys:=by
 obtain⟨its,r,⟨o,n,e,_,_,d⟩,_⟩:=I.list h
 obtain⟨its',r',⟨o',n',e',_,_,d'⟩,_⟩:=I.list h'
 rw[e] at e';cases e'
 rw[d] at d'
 injection d' with d1 _
 have:its=its':=by simpa using congrArg Array.toList d1
 subst this
 exact r.inj r'
theorem Inv.tuple_inj(I:Inv X pins σ H s)(h:SqT X.K H a xs)(h':SqT X.K H a ys):xs=ys:=by
 obtain⟨its,r,⟨o,e,_,n,d⟩,_⟩:=I.tuple h
 obtain⟨its',r',⟨o',e',_,n',d'⟩,_⟩:=I.tuple h'
 rw[e] at e';cases e'
 rw[d] at d'
 injection d' with d1 _
 have:its=its':=by simpa using congrArg Array.toList d1
 subst this
 exact r.inj r'
end
abbrev Cx.wish(X:Cx)(E:Value→Shared→Prop):Cx:={ X with xe:=E }
abbrev Cx.nox(X:Cx):Cx:=X.wish fun _ _=>False
theorem Cx.Ok.wish{X:Cx}(ok:X.Ok)(E:Value→Shared→Prop):(X.wish E).Ok:=
 ⟨ok.mod,ok.kind,ok.glob,ok.blt,ok.above,ok.inj,ok.has,ok.cab,ok.hd,ok.frames,ok.stk,ok.exf,ok.bs,ok.bsz,ok.noex,ok.exfs,ok.funs,ok.frf⟩
theorem Cx.Ok.unwish{X:Cx}{E:Value→Shared→Prop}(ok:(X.wish E).Ok):X.Ok:=
 ⟨ok.mod,ok.kind,ok.glob,ok.blt,ok.above,ok.inj,ok.has,ok.cab,ok.hd,ok.frames,ok.stk,ok.exf,ok.bs,ok.bsz,ok.noex,ok.exfs,ok.funs,ok.frf⟩
section
variable {X:Cx} {pins:List (Addr×Obj)} {σ:St} {H:Hp} {s:Shared} {E:Value→Shared→Prop}
theorem Inv.wish(I:Inv X pins σ H s)(E:Value→Shared→Prop):Inv (X.wish E) pins σ H s:=⟨I.ok.wish E,I.os,I.bare,I.base,I.loc,I.cell,I.free,I.freeC,I.pin,I.hok,I.len⟩
theorem Inv.unwish(I:Inv (X.wish E) pins σ H s):Inv X pins σ H s:=⟨I.ok.unwish,I.os,I.bare,I.base,I.loc,I.cell,I.free,I.freeC,I.pin,I.hok,I.len⟩
theorem SP.unwish{D:Ends}{f:Flow}{s':Shared}(h:SP (X.wish E) pins D f s'):SP X pins D f s':=by
 cases f with
 |next=>obtain⟨σ',H',I,q⟩:=h;exact⟨σ',H',I.unwish,q⟩
 |brk=>obtain⟨σ',H',I,q⟩:=h;exact⟨σ',H',I.unwish,q⟩
 |cont=>obtain⟨σ',H',I,q⟩:=h;exact⟨σ',H',I.unwish,q⟩
 |ret u=>obtain⟨v,σ',H',I,r,q⟩:=h;exact⟨v,σ',H',I.unwish,r,q⟩
theorem PSs.nox{st:List Stmt}{t:TS}(h:PSs X.nox st t):PSs X st t:=fun pins s σ H D I hw=>
 wpAny_mono (h pins s σ H D (I.wish _) hw) (fun _ _ q=>q.unwish) fun _ _ z=>False.elim z
end
section
variable {X:Cx} {st:Stmt} {rest:List Stmt} {t u:TS} {e:Expr} {te:TE} {pos:Pos}
def aEw:TS:=fun D σ H=>D.nx σ H
def tSeq(t u:TS):TS:=fun D σ H=>t { D with nx:=u D } σ H
theorem bD:PSs X [] aEw:=fun _ _ σ H _ I h=>wpAny_execs_nil ⟨σ,H,I,h⟩
theorem aE(h1:PS X st t)(h2:PSs X rest u):PSs X (st::rest) (tSeq t u):=by
 intro pins s σ H D I h
 refine wpAny_execs_cons (thn (h1 pins s σ H { D with nx:=u D } I h) fun f s1 q=>?_)
 cases f with
 |next=>
  obtain⟨σ',H',I',q⟩:=q
  exact h2 pins s1 σ' H' D I' q
 |ret v=>exact q
 |brk=>exact q
 |cont=>exact q
theorem aJ(h1:PS X st t):PSs X [st] t:=by
 intro pins s σ H D I h
 refine wpAny_execs_cons (thn (h1 pins s σ H D I h) fun f s1 q=>?_)
 cases f with
 |next=>exact wpAny_execs_nil q
 |ret v=>exact q
 |brk=>exact q
 |cont=>exact q
theorem Inv.quiet{pins:List (Addr×Obj)}{σ:St}{H:Hp}{s:Shared}(I:Inv X pins σ H s):interactive X.env=false:=by simp[interactive,I.ok.kind]
def aEx(te:TE):TS:=fun D σ H=>te σ H fun _ H1=>D.nx σ H1
theorem bS(he:PE X e te)(hs:swapsWith e none pos.line X.env=pure false:=by rfl):PS X (.Expr e pos) (aEx te):=by
 intro pins s σ H D I h
 exact wpAny_Expr_any (thn (he pins s σ H _ I h) fun v s1 ⟨x,H1,I1,r1,q1⟩=>⟨σ,H1,I1,q1⟩) I.quiet hs
def tRet(te:TE):TS:=fun D σ H=>te σ H D.rt
theorem bA(he:PE X e te):PS X (.Return (some e) pos) (tRet te):=by
 intro pins s σ H D I h
 exact wpAny_Return_some (thn (he pins s σ H _ I h) fun v s1 ⟨x,H1,I1,r1,q1⟩=>⟨x,σ,H1,I1,r1,q1⟩)
def tIfS(c:TT)(t u:TS):TS:=fun D σ H=>c σ H fun b H1=>if b=true then t D σ H1 else u D σ H1
theorem bR{c:Expr}{a b:List Stmt}{tc:TT}(hc:PT X c tc)(ha:PSs X a t)(hb:PSs X b u):PS X (.If c a b pos) (tIfS tc t u):=by
 intro pins s σ H D I h
 refine wpAny_If (thn (hc pins s σ H _ I h) fun d s1 ⟨H1,I1,q1⟩=>?_)
 cases d with
 |true=>exact ha pins s1 σ H1 D I1 q1
 |false=>exact hb pins s1 σ H1 D I1 q1
def aDO:TS:=fun _ _ _=>False
theorem eA{sts:List Stmt}:PSs X sts aDO:=fun _ _ _ _ _ _ h=>h.elim
end
abbrev TG:=V→St→Hp→(St→Hp→Prop)→Prop
abbrev TGs:=List V→St→Hp→(St→Hp→Prop)→Prop
def PG(X:Cx)(target:Expr)(t:TG):Prop:=
 ∀ (pins:List (Addr×Obj)) (s:Shared) (σ:St) (H:Hp) (v:V) (u:Value) (Q:St→Hp→Prop),Inv X pins σ H s→RelV v u→t v σ H Q→
  wpAny (model X.prog X.w) X.A (assign target X.env u) (fun _ s'=>∃σ' H',Inv X pins σ' H' s'∧Q σ' H') X.xe s
def PGs(X:Cx)(ts:List Expr)(t:TGs):Prop:=
 ∀ (pins:List (Addr×Obj)) (s:Shared) (σ:St) (H:Hp) (vs:List V) (us:List Value) (Q:St→Hp→Prop),Inv X pins σ H s→Vals vs us→t vs σ H Q→
  wpAny (model X.prog X.w) X.A (assignInOrder ((assignEach ts X.env).map (·.2)) us) (fun _ s'=>∃σ' H',Inv X pins σ' H' s'∧Q σ' H') X.xe s
abbrev TSet:=V→V→V→Hp→(Hp→Prop)→Prop
def PSet(X:Cx)(t:TSet):Prop:=
 ∀ (pins:List (Addr×Obj)) (s:Shared) (σ:St) (H:Hp) (o i v:V) (ov iv u:Value) (Q:Hp→Prop),Inv X pins σ H s→RelV o ov→RelV i iv→RelV v u→t o i v H Q→
  wpAny (model X.prog X.w) X.A (setItem ov iv u) (fun _ s'=>∃H',Inv X pins σ H' s'∧Q H') X.xe s
abbrev TIp:=V→V→Hp→VK→Prop
def PIp(X:Cx)(op:Operator)(t:TIp):Prop:=
 ∀ (pins:List (Addr×Obj)) (s:Shared) (σ:St) (H:Hp) (x y:V) (v u:Value) (Q:VK),Inv X pins σ H s→RelV x v→RelV y u→t x y H Q→
  wpAny (model X.prog X.w) X.A (inplaceOp op v u) (EP X pins σ Q) X.xe s
section
variable {X:Cx} {pos:Pos}
def bG(i:Nat):TG:=fun v σ H Q=>Q (σ.set i (some v)) H
theorem aL{i:Nat}{x:Str}(hN:X.N.Nodup)(hi:X.N[i]?=some x)(hx:Loc X.env.scope x)(hf:X.fn x=true∨X.env.scope.names.lookup x=some .local:=by first|exact .inl rfl|exact .inr rfl|assumption):PG X (.Name x pos) (bG i):=by
 intro pins s σ H v u Q I r h
 exact wpAny_assign_Name (iH I hN hi hx r (fun s' I'=>⟨_,H,I',h⟩) hf)
def gNil:TGs:=fun vs σ H Q=>vs=[]∧Q σ H
def fW(t:TG)(u:TGs):TGs:=fun vs σ H Q=>∃v r,vs=v::r∧t v σ H fun σ' H'=>u r σ' H' Q
theorem cR:PGs X [] gNil:=by
 intro pins s σ H vs us Q I r h
 obtain⟨e,h⟩:=h
 subst e
 cases r
 exact assignInOrder_nil ⟨σ,H,I,h⟩
theorem bC{e:Expr}{es:List Expr}{t:TG}{u:TGs}(h1:PG X e t)(h2:PGs X es u)(hs:(assignEach (e::es) X.env).map (·.2)=assign e X.env::(assignEach es X.env).map (·.2):=by rfl):PGs X (e::es) (fW t u):=by
 intro pins s σ H vs us Q I r h
 obtain⟨v,vr,e1,h⟩:=h
 subst e1
 cases r with
 |cons r rr=>
  rw[hs]
  refine assignInOrder_cons (thn (h1 pins s σ H _ _ _ I r h) fun _ s1 ⟨σ1,H1,I1,q1⟩=>?_)
  exact h2 pins s1 σ1 H1 _ _ Q I1 rr q1
def gTup(K:PySem.W.Frag)(n:Nat)(t:TGs):TG:=fun v σ H Q=>∃a xs,v=.ref a∧SqT K H a xs∧xs.length=n∧t xs σ H Q
theorem dR{es:List Expr}{k:Nat}{t:TGs}{n:Nat}(hc:X.calm=true)(h:PGs X es t)(hn:(assignEach es X.env).length=n:=by rfl)(hst:(assignEach es X.env).findIdx? (·.1)=none:=by rfl):PG X (.Tuple es k pos) (gTup X.K n t):=by
 intro pins s σ H v u Q I r hw
 obtain⟨a,xs,e1,hq,hl,hw⟩:=hw
 subst e1
 cases r
 obtain⟨its,rv,ht,hz⟩:=I.tuple hq
 refine assign_Tuple_tuple (I.ok.hd hc) ht (by simp[hn,← hl,rv.length]) hst fun h' hx=>?_
 have I1:Inv X pins σ H { s with heap:=h' }:=I.kept (t':=s.toks) fun b o e=>hx b o (Nat.ne_of_lt (Heap.lt_size e)) e
 exact h pins _ σ H xs _ Q I1 (by simpa using rv) hw
def gSub(to ti:TE)(t:TSet):TG:=fun v σ H Q=>to σ H fun o H1=>ti σ H1 fun i H2=>t o i v H2 fun H3=>Q σ H3
theorem eI{o i:Expr}{to ti:TE}{t:TSet}(ho:PE X o to)(hi:PE X i ti)(hs:PSet X t)(ha:∀v,assign (.Subscript o i pos) X.env v=(do
   let ov ← holding [v] (eval o X.env)
   let iv ← holding [v,ov] (eval i X.env)
   standAt pos
   holding [v,ov,iv] (setItem ov iv v)
   release [v,ov,iv] []):=by intro _;rfl):PG X (.Subscript o i pos) (gSub to ti t):=by
 intro pins s σ H v u Q I r h
 rw[ha]
 refine wpAny_bind (wpAny_holding (thn (ho pins s σ H _ I h) fun ov s1 ⟨x,H1,I1,r1,q1⟩=>?_))
 refine wpAny_bind (wpAny_holding (thn (hi pins s1 σ H1 _ I1 q1) fun iv s2 ⟨y,H2,I2,r2,q2⟩=>?_))
 refine wpAny_bind (wpAny_standAt (wpAny_bind (wpAny_holding (thn (hs pins s2 σ H2 x y v ov iv u _ I2 r1 r2 r q2) fun _ s3 ⟨H3,I3,q3⟩=>?_))))
 exact wpAny_release ⟨σ,H3,I3,q3⟩
def tAsg(te:TE)(g:TG):TS:=fun D σ H=>te σ H fun x H1=>g x σ H1 D.nx
theorem cK{tg e:Expr}{te:TE}{g:TG}(he:PE X e te)(hg:PG X tg g)(hs:swapsWithSole [tg] e pos.line X.env=pure false:=by rfl)(hw:swappedStores [tg] e X.env=pure none:=by rfl)(h1:(assignEach [tg] X.env).map (·.2)=[assign tg X.env]:=by rfl):PS X (.Assign [tg] e pos) (tAsg te g):=by
 intro pins s σ H D I h
 refine wpAny_Assign_stores (thn (he pins s σ H _ I h) fun v s1 ⟨x,H1,I1,r1,q1⟩=>?_) hs hw
 rw[h1]
 exact thn (hg pins s1 σ H1 x v _ I1 r1 q1) fun _ s2 q=>q
theorem aO{i:Nat}{x:Str}{e:Expr}{te:TE}{pos':Pos}(hN:X.N.Nodup)(hi:X.N[i]?=some x)(hx:Loc X.env.scope x)(he:PE X e te)(hs:swapsWith e (some (.Name x pos')) pos.line X.env=pure false:=by rfl)(hf:X.fn x=true∨X.env.scope.names.lookup x=some .local:=by first|exact .inl rfl|exact .inr rfl|assumption):
  PS X (.Assign [.Name x pos'] e pos) (tAsg te (bG i)):=by
 intro pins s σ H D I h
 refine wpAny_Assign_Name (thn (he pins s σ H _ I h) fun v s1 ⟨y,H1,I1,r1,q1⟩=>?_) hs
 exact iH I1 hN hi hx r1 (fun s2 I2=>⟨_,H1,I2,q1⟩) hf
def tPar(i j:Nat)(ta:TA):TS:=fun D σ H=>ta σ H fun vs H1=>∃v w,vs=[v,w]∧D.nx ((σ.set i (some v)).set j (some w)) H1
theorem rZ{i j:Nat}{x y:Str}{a b:Expr}{ta:TA}{px py pt:Pos}{kt k2 pt2}(hc:X.calm=true)(hN:X.N.Nodup)(hi:X.N[i]?=some x)(hj:X.N[j]?=some y)(hij:i≠j)(hx:X.env.scope.names.lookup x=some .local)(hy:X.env.scope.names.lookup y=some .local)(ha:PA X [a,b] ta)(hw:swappedStores [.Tuple [.Name x px,.Name y py] kt pt] (.Tuple [a,b] k2 pt2) X.env=pure (some [x,y]))(hs:swapsWithSole [.Tuple [.Name x px,.Name y py] kt pt] (.Tuple [a,b] k2 pt2) pos.line X.env=pure false:=by rfl):
  PS X (.Assign [.Tuple [.Name x px,.Name y py] kt pt] (.Tuple [a,b] k2 pt2) pos) (tPar i j ta):=by
 intro pins s σ H D I h
 rw[exec_Assign_arm]
 refine wpAny_bind (wpAny_standAt ?_)
 rw[hs]
 refine wpAny_bind (wpAny_pure ?_)
 rw[if_neg (by decide)]
 refine wpAny_bind (Tuple_ (thn (ha _ pins s σ H _ I h) fun us s1 ⟨vs,H1,I1,r1,q1⟩=>?_))
 obtain⟨v,w,e1,q1⟩:=q1
 subst e1
 obtain⟨u1,u2,rfl,rv,rw'⟩:∃u1 u2,us=[u1,u2]∧RelV v u1∧RelV w u2:=by
  cases r1 with
  |cons p q=>
   cases q with
   |cons p' q'=>
    cases q'
    exact⟨_,_,rfl,p,p'⟩
 refine wpAny_newObj_type ?_ (by show 2≤sizeLine;decide)
 have I2:Inv X pins σ H1 { s1 with heap:=s1.heap.push { cls:=.type "tuple",data:=.seq [u1,u2].toArray } }:=I1.kept (t':=s1.toks) fun b o e=>Heap.get?_push_of_some _ e
 rw[hw]
 refine wpAny_bind (wpAny_pure ?_)
 show wpAny (model X.prog X.w) X.A (do rule "assign.swapped-stores";let items ← unpackItems (.ref s1.heap.objs.size) 2 none;assignInOrder [fun v=>bindName X.env y v,fun v=>bindName X.env x v] items.reverse;pure Flow.next) _ _ _
 refine wpAny_bind (wpAny_rule (wpAny_bind (unpackItems_tuple (items:=#[u1,u2]) (I.ok.hd hc) (IsTup.new s1.heap _) fun h' hx'=>?_)))
 have I3:=I2.kept (h':=h') (t':=s1.toks) fun b o e=>hx' b o (Nat.ne_of_lt (Heap.lt_size e)) e
 show wpAny _ _ (assignInOrder [fun v=>bindName X.env y v,fun v=>bindName X.env x v] [u2,u1] >>= fun _=>pure Flow.next) _ _ _
 refine wpAny_bind (assignInOrder_cons (wpAny_bindName (iH I3 hN hj (.inl hy) rw' (fun s2 I4=>?_) (.inr hy))))
 refine assignInOrder_cons (wpAny_bindName (iH I4 hN hi (.inl hx) rv (fun s3 I5=>assignInOrder_nil (wpAny_pure ?_)) (.inr hx)))
 rw[List.set_comm _ _ (Ne.symm hij)] at I5
 exact⟨_,H1,I5,q1⟩
def tAug(i:Nat)(te:TE)(ti:TIp):TS:=fun D σ H=>∃x,σ[i]?=some (some x)∧te σ H fun y H1=>ti x y H1 fun z H2=>D.nx (σ.set i (some z)) H2
theorem aDP{i:Nat}{x:Str}{e:Expr}{te:TE}{op:Operator}{ti:TIp}{pos':Pos}(hN:X.N.Nodup)(hi:X.N[i]?=some x)(hx:Loc X.env.scope x)(he:PE X e te)(ho:PIp X op ti)(hf:X.fn x=true∨X.env.scope.names.lookup x=some .local:=by first|exact .inl rfl|exact .inr rfl|assumption):
  PS X (.AugAssign (.Name x pos') op e pos) (tAug i te ti):=by
 intro pins s σ H D I h
 obtain⟨v,e1,h⟩:=h
 obtain⟨m,hn,hl⟩:=I.loc
 have vis:Vis X.env.scope x:=by rcases hx with k|k;exact .inl k;exact .inr (.inl k)
 obtain⟨u,r,l⟩:=hl i x v hi e1 vis
 refine wpAny_AugAssign_Name ?_
 have go:wpAny (model X.prog X.w) X.A (eval e X.env) (fun w s₂=>wpAny (model X.prog X.w) X.A (inplaceOp op u w) (fun r s₃=>wpAny (model X.prog X.w) X.A (storeName X.env x r) (fun _=>SP X pins D .next) X.xe s₃) X.xe s₂) X.xe s:=by
  refine thn (he pins s σ H _ I h) fun w s1 ⟨y,H1,I1,r1,q1⟩=>?_
  refine thn (ho pins s1 σ H1 v y u w _ I1 r r1 q1) fun z s2 ⟨zv,H2,I2,r2,q2⟩=>?_
  exact iH I2 hN hi hx r2 (fun s3 I3=>⟨_,H2,I3,q2⟩) hf
 rcases l with ⟨hk,hm⟩|⟨hk,c,hc,hcell⟩
 ·exact wpAny_loadName_local I.ok.kind hk hn hm go
 ·rcases hk with hk|hk
  ·exact wpAny_loadName_cell I.ok.kind hk hc hcell go
  ·rcases hx with k|k
   ·have:X.env.scope.names.lookup x=some .free:=hk
    rw[k] at this;cases this
   ·have:X.env.scope.names.lookup x=some .free:=hk
    rw[k] at this;cases this
def ipI(f:Int→Int→Int):TIp:=fun x y H Q=>∃i j,x=.int i∧y=.int j∧Q (.int (f i j)) H
theorem aDQ:PIp X .Add (ipI fun i j=>i+j):=by
 intro pins s σ H x y v u Q I r1 r2 h
 obtain⟨i,j,e1,e2,q⟩:=h
 subst e1;subst e2
 obtain⟨t,rfl⟩:=r1
 obtain⟨t',rfl⟩:=r2
 exact iadd_int ⟨.int _,H,I.tok _,⟨_,rfl⟩,q⟩
end
section
variable {X:Cx} {pos:Pos}
def aAc(c:TT)(tb:TS):TS:=fun D σ H=>∃W:Nat→St→Hp→Prop,(∃m,W m σ H)∧∀m σ H,W m σ H→
 c σ H fun b H1=>if b=true then ∃N:St→Hp→Prop,(∀σ' H',N σ' H'→∃m',m'<m∧W m' σ' H')∧tb { D with nx:=N,ct:=N,bk:=D.nx } σ H1 else D.nx σ H1
theorem sA{c:Expr}{body:List Stmt}{tc:TT}{tb:TS}(hp:PassesOwn (model X.prog X.w) X.A X.env X.xe)(hc:PT X c tc)(hb:PSs X body tb):PS X (.While c body [] pos) (aAc tc tb):=by
 intro pins s σ H D I h
 obtain⟨W,⟨m0,w0⟩,turn⟩:=h
 refine wpAny_While (codeAny_whileLoop (fun n s'=>∃σ' H',Inv X pins σ' H' s'∧W n σ' H') ?_ m0 ⟨σ,H,I,w0⟩)
 rintro n s1 ⟨σ1,H1,I1,w1⟩
 refine wpAny_passesOwn hp (thn (hc pins s1 σ1 H1 _ I1 (turn n σ1 H1 w1)) fun b s2 ⟨H2,I2,q2⟩=>?_)
 cases b with
 |true=>
  obtain⟨N,hN,q2⟩:=q2
  rw[if_pos rfl]
  refine wpAny_passesOwn hp (thn (hb pins s2 σ1 H2 _ I2 q2) fun f s3 q3=>?_)
  cases f with
  |next=>
   obtain⟨σ3,H3,I3,n3⟩:=q3
   obtain⟨m',hm,w3⟩:=hN σ3 H3 n3
   exact⟨m',hm,σ3,H3,I3,w3⟩
  |cont=>
   obtain⟨σ3,H3,I3,n3⟩:=q3
   obtain⟨m',hm,w3⟩:=hN σ3 H3 n3
   exact⟨m',hm,σ3,H3,I3,w3⟩
  |brk=>exact q3
  |ret v=>exact q3
 |false=>
  rw[if_neg Bool.false_ne_true]
  exact wpAny_execs_nil ⟨σ1,H2,I2,q2⟩
end
structure It where
 go:Nat→Hp→Prop
 yld:Nat→Hp→V→Hp→Prop
 stop:Nat→Hp→Prop
def FpOk(X:Cx)(pins:List (Addr×Obj))(H:Hp)(b:Addr):Prop:=
 H b=none∧b≠X.env.locals∧b∉X.fs∧(b∈X.ex∨X.s₀.heap.objs.size≤b)∧(∀x c,X.env.cells.lookup x=some c→c≠b)∧∀p∈X.pn++pins,p.1≠b
theorem Inv.fpOk{X:Cx}{pins:List (Addr×Obj)}{σ:St}{H H':Hp}{s:Shared}{b:Addr}(I:Inv X pins σ H s)(hb:s.heap.objs.size≤b)(hn:H' b=none):FpOk X pins H' b:=by
 refine⟨hn,Nat.ne_of_gt (Nat.lt_of_lt_of_le I.lt hb),I.nofs hb,.inr (Nat.le_trans I.sz hb),fun x c e z=>?_,fun p hp z=>?_⟩
 ·obtain⟨v,q⟩:=I.cell x c e
  exact absurd (Nat.lt_of_lt_of_le q.lt (by rw[z];exact hb)) (Nat.lt_irrefl _)
 ·exact absurd (Nat.lt_of_lt_of_le (Heap.lt_size (I.pin p hp).1) (by rw[z];exact hb)) (Nat.lt_irrefl _)
structure Turn(P:Program)(w:World)(K:PySem.W.Frag)(tg:Expr)(J:It)(fp:List Addr)(it:Addr)(tn:Nat→Heap→Prop):Prop where
 mem:it∈fp
 obj:∀i h,tn i h→∀b∈fp,∃o,h.get? b=some o∧∀v,o.data≠.cell v
 keep:∀i h h',tn i h→(∀b∈fp,∀o,h.get? b=some o→h'.get? b=some o)→tn i h'
 item:∀ (X:Cx),X.prog=P→X.w=w→X.K=K→X.calm=true→∀ (i:Nat) (pins:List (Addr×Obj)) (s:Shared) (σ:St) (H:Hp) (E:Value→Shared→Prop),Inv X pins σ H s→(∀b∈fp,FpOk X pins H b)→tn i s.heap→J.go i H→
  wpAny (model P w) X.A (pyNext (.ref it)) (fun r s1=>∃u,r=some u∧
   wpAny (model P w) X.A (letOwnedTupleGo tg (.ref it) u) (fun _ s2=>∃x H',Inv X pins σ H' s2∧RelV x u∧J.yld i H x H'∧tn (i+1) s2.heap∧∀b∈fp,H' b=none) E s1) E s
 done:∀ (X:Cx),X.prog=P→X.w=w→X.K=K→X.calm=true→∀ (i:Nat) (pins:List (Addr×Obj)) (s:Shared) (σ:St) (H:Hp) (E:Value→Shared→Prop),Inv X pins σ H s→(∀b∈fp,FpOk X pins H b)→tn i s.heap→J.stop i H→
  wpAny (model P w) X.A (pyNext (.ref it)) (fun r s1=>r=none∧Inv X pins σ H s1) E s
 self:∀ (A:Around) (i:Nat) (s:Shared) (Q:Value→Shared→Prop) (E:Value→Shared→Prop),tn i s.heap→Q (.ref it) s→wpAny (model P w) A (pyIter (.ref it)) Q E s
abbrev TI:=St→Hp→(It→Hp→Prop)→Prop
def PIE(X:Cx)(pins:List (Addr×Obj))(σ:St)(tg:Expr)(R:It→Hp→Prop)(itv:Value)(s2:Shared):Prop:=
 ∃ (it:Addr) (fp:List Addr) (tn:Nat→Heap→Prop) (J:It) (H':Hp),itv=.ref it∧Inv X pins σ H' s2∧Turn X.prog X.w X.K tg J fp it tn∧tn 0 s2.heap∧(∀b∈fp,FpOk X pins H' b)∧R J H'
def PI(X:Cx)(tg iter:Expr)(wi:TI):Prop:=
 ∀ (pins:List (Addr×Obj)) (s:Shared) (σ:St) (H:Hp) (R:It→Hp→Prop),Inv X pins σ H s→wi σ H R→
  wpAny (model X.prog X.w) X.A (eval iter X.env) (fun v s1=>wpAny (model X.prog X.w) X.A (pyIter v) (PIE X pins σ tg R) X.xe s1) X.xe s
theorem xP {M : Model} {A : Around} {E : Value → Shared → Prop} {s : Shared} {tg : Expr} {it : Addr} {u : Value} {o : Obj} {n : String} {vs : Array Value} {Q : Unit → Shared → Prop} (ho : s.heap.get? it = some o) (hc : o.cls = .type n) (hd : o.data = .fields vs)
    (hn : ["enumerate", "zip", "dict_itemiterator", "dict_reverseitemiterator", "odict_iterator", "itertools.zip_longest", "itertools.pairwise"].contains n = false) (hQ : Q () s) : wpAny M A (letOwnedTupleGo tg (.ref it) u) Q E s := by
  unfold letOwnedTupleGo
  cases tg <;> first
    | exact wpAny_pure hQ
    | (cases u <;> first
        | exact wpAny_pure hQ
        | (refine wpAny_bind (wpAny_load ho ?_)
           rw [hc, hd]
           show wpAny M A (if (["enumerate", "zip", "dict_itemiterator", "dict_reverseitemiterator", "odict_iterator", "itertools.zip_longest", "itertools.pairwise"].contains n && vs[0]? == some (rawInt _)) = true then _ else _) Q E s
           rw [if_neg (by intro h; rw [hn, Bool.false_and] at h; cases h)]
           exact wpAny_pure hQ))
def Itl(K:PySem.W.Frag)(a:Addr):It:=
 ⟨fun i H=>∃xs x,SqL K H a xs∧xs[i]?=some x,fun i H x H'=>H'=H∧∀xs,SqL K H a xs→xs[i]?=some x,fun i H=>∃xs,SqL K H a xs∧xs.length≤i⟩
def Itt(K:PySem.W.Frag)(a:Addr):It:=
 ⟨fun i H=>∃xs x,SqT K H a xs∧xs[i]?=some x,fun i H x H'=>H'=H∧∀xs,SqT K H a xs→xs[i]?=some x,fun i H=>∃xs,SqT K H a xs∧xs.length≤i⟩
def Itr(lo:Int)(n:Nat):It:=⟨fun i _=>i<n,fun i H x H'=>H'=H∧x=.int (lo+i),fun i _=>n≤i⟩
theorem aAd{P:Program}{w:World}{K:PySem.W.Frag}{tg:Expr}(a it:Addr):Turn P w K tg (Itl K a) [it] it (fun i h=>h.IsListIter it a i) where
 mem:=by simp
 obj:=fun i h st b hb=>by
  have e:b=it:=by simpa using hb
  subst e
  obtain⟨o,e,c,d⟩:=st
  exact⟨o,e,fun v z=>by rw[d] at z;cases z⟩
 keep:=fun i h h' st k=>st.at fun o e=>k it (by simp) o e
 item:=by
  intro X hP hw hK hc i pins s σ H E I hf st hg
  subst hP hw hK
  obtain⟨xs,x,hq,hx⟩:=hg
  obtain⟨its,rv,p,hz⟩:=I.list hq
  obtain⟨u,hu,ru⟩:=rv.get hx
  obtain⟨f0,f1,f2,f3,f4,f5⟩:=hf it (by simp)
  refine wpAny_pyNext_list_item st p.isList (x:=u) (by simpa using hu) fun h' st' sb=>?_
  have I1:Inv X pins σ H { s with heap:=h' }:=I.turned (t':=s.toks) (fun b o hb e=>(sb.2 b hb).trans e) f0 f1 f3 f4 f5
  obtain⟨o,e,c,d⟩:=id st'
  exact⟨u,rfl,xP (s:={ s with heap:=h' }) e c d (by decide) ⟨x,H,I1,ru,⟨rfl,fun ys hy=>by rw[I.list_inj hy hq];exact hx⟩,st',fun b hb=>(hf b hb).1⟩⟩
 done:=by
  intro X hP hw hK hc i pins s σ H E I hf st hg
  subst hP hw hK
  obtain⟨xs,hq,hx⟩:=hg
  obtain⟨its,rv,p,hz⟩:=I.list hq
  obtain⟨f0,f1,f2,f3,f4,f5⟩:=hf it (by simp)
  have hl:=rv.length
  exact wpAny_pyNext_list_end (I.ok.hd hc) st p.isList (by simp;lia) fun h' eb=>⟨rfl,I.turned (t':=s.toks) (fun b o hb e=>eb b o hb e) f0 f1 f3 f4 f5⟩
 self:=fun _ _ _ _ _ st h=>wpAny_pyIter_listiter st h
theorem xQ{P:Program}{w:World}{K:PySem.W.Frag}{tg:Expr}(a it:Addr):Turn P w K tg (Itt K a) [it] it (fun i h=>h.IsTupleIter it a i) where
 mem:=by simp
 obj:=fun i h st b hb=>by
  have e:b=it:=by simpa using hb
  subst e
  obtain⟨o,e,c,d⟩:=st
  exact⟨o,e,fun v z=>by rw[d] at z;cases z⟩
 keep:=fun i h h' st k=>st.at fun o e=>k it (by simp) o e
 item:=by
  intro X hP hw hK hc i pins s σ H E I hf st hg
  subst hP hw hK
  obtain⟨xs,x,hq,hx⟩:=hg
  obtain⟨its,rv,p,hz⟩:=I.tuple hq
  obtain⟨u,hu,ru⟩:=rv.get hx
  obtain⟨f0,f1,f2,f3,f4,f5⟩:=hf it (by simp)
  refine wpAny_pyNext_tuple_item st (show s.heap.IsTuple a its.toArray from p) (x:=u) (by simpa using hu) fun h' st' sb=>?_
  have I1:Inv X pins σ H { s with heap:=h' }:=I.turned (t':=s.toks) (fun b o hb e=>(sb.2 b hb).trans e) f0 f1 f3 f4 f5
  obtain⟨o,e,c,d⟩:=id st'
  exact⟨u,rfl,xP (s:={ s with heap:=h' }) e c d (by decide) ⟨x,H,I1,ru,⟨rfl,fun ys hy=>by rw[I.tuple_inj hy hq];exact hx⟩,st',fun b hb=>(hf b hb).1⟩⟩
 done:=by
  intro X hP hw hK hc i pins s σ H E I hf st hg
  subst hP hw hK
  obtain⟨xs,hq,hx⟩:=hg
  obtain⟨its,rv,p,hz⟩:=I.tuple hq
  obtain⟨f0,f1,f2,f3,f4,f5⟩:=hf it (by simp)
  have hl:=rv.length
  exact wpAny_pyNext_tuple_end (I.ok.hd hc) st (show s.heap.IsTuple a its.toArray from p) (by simp;lia) fun h' eb=>⟨rfl,I.turned (t':=s.toks) (fun b o hb e=>eb b o hb e) f0 f1 f3 f4 f5⟩
 self:=fun _ _ _ _ _ st h=>wpAny_pyIter_tupleiter st h
theorem xR{P:Program}{w:World}{K:PySem.W.Frag}{tg:Expr}(it:Addr)(lo:Int)(n:Nat):Turn P w K tg (Itr lo n) [it] it (fun i h=>IsRangeIter h it (lo+(i:Nat)*1) ((n:Int)-(i:Nat)) 1) where
 mem:=by simp
 obj:=fun i h st b hb=>by
  have e:b=it:=by simpa using hb
  subst e
  exact⟨_,st,fun v z=>by
   have z':Data.fields _=Data.cell v:=z
   cases z'⟩
 keep:=fun i h h' st k=>k it (by simp) _ st
 item:=by
  intro X hP hw hK hc i pins s σ H E I hf st hg
  subst hP hw hK
  obtain⟨f0,f1,f2,f3,f4,f5⟩:=hf it (by simp)
  have W:=Walks.range (prog:=X.prog) (w:=X.w) (I.ok.hd hc) it lo 1 n
  refine W.item i s _ _ hg st fun v h' tk hv st' kk=>?_
  obtain⟨t,rfl⟩:=hv
  have I1:Inv X pins σ H { s with heap:=h',toks:=tk }:=I.turned (fun b o hb e=>kk b o (by simpa using hb) e) f0 f1 f3 f4 f5
  refine⟨_,rfl,xP (s:={ s with heap:=h',toks:=tk }) (n:="range_iterator") st' rfl rfl (by decide) ⟨.int (lo+i),H,I1,⟨t,?_⟩,⟨rfl,rfl⟩,st',fun b hb=>(hf b hb).1⟩⟩
  rw[Int.mul_one]
 done:=by
  intro X hP hw hK hc i pins s σ H E I hf st hg
  subst hP hw hK
  obtain⟨f0,f1,f2,f3,f4,f5⟩:=hf it (by simp)
  exact wpAny_pyNext_range_end (I.ok.hd hc) st (by have:n≤i:=hg;lia) fun h' eb=>⟨rfl,I.turned (t':=s.toks) (fun b o hb e=>eb b o hb e) f0 f1 f3 f4 f5⟩
 self:=fun _ _ _ _ _ st h=>wpAny_pyIter_rangeiter st h
end L2
namespace L2
open PySem PySem.Spec PyProof.Rows
section
variable {X:Cx} {tg:Expr}
def aCl(K:PySem.W.Frag)(tl:TE):TI:=fun σ H R=>tl σ H fun x H1=>∃a,x=.ref a∧(∃xs,SqL K H1 a xs)∧R (Itl K a) H1
def iTup(K:PySem.W.Frag)(tl:TE):TI:=fun σ H R=>tl σ H fun x H1=>∃a,x=.ref a∧(∃xs,SqT K H1 a xs)∧R (Itt K a) H1
theorem bP{l:Expr}{tl:TE}(hl:PE X l tl):PI X tg l (aCl X.K tl):=by
 intro pins s σ H R I h
 refine thn (hl pins s σ H _ I h) fun v s1 ⟨x,H1,I1,r1,q1⟩=>?_
 obtain⟨a,e,⟨xs,hq⟩,q⟩:=q1
 subst e
 cases r1
 obtain⟨its,rv,p,hz⟩:=I1.list hq
 refine wpAny_pyIter_list p.isList ?_
 refine⟨s1.heap.objs.size,[s1.heap.objs.size],_,_,H1,rfl,I1.kept (t':=s1.toks) fun b o e=>Heap.get?_push_of_some _ e,aAd a _,⟨_,Heap.get?_push_size _ rfl,rfl,rfl⟩,fun b hb=>?_,q⟩
 have e:b=s1.heap.objs.size:=by simpa using hb
 subst e
 exact I1.fpOk (Nat.le_refl _) (I1.hok.fresh (Nat.le_refl _))
theorem nW{l:Expr}{tl:TE}(hl:PE X l tl):PI X tg l (iTup X.K tl):=by
 intro pins s σ H R I h
 refine thn (hl pins s σ H _ I h) fun v s1 ⟨x,H1,I1,r1,q1⟩=>?_
 obtain⟨a,e,⟨xs,hq⟩,q⟩:=q1
 subst e
 cases r1
 obtain⟨its,rv,p,hz⟩:=I1.tuple hq
 refine wpAny_pyIter_tuple (show s1.heap.IsTuple a its.toArray from p) ?_
 refine⟨s1.heap.objs.size,[s1.heap.objs.size],_,_,H1,rfl,I1.kept (t':=s1.toks) fun b o e=>Heap.get?_push_of_some _ e,xQ a _,⟨_,Heap.get?_push_size _ rfl,rfl,rfl⟩,fun b hb=>?_,q⟩
 have e:b=s1.heap.objs.size:=by simpa using hb
 subst e
 exact I1.fpOk (Nat.le_refl _) (I1.hok.fresh (Nat.le_refl _))
theorem sB{pins:List (Addr×Obj)}{σ:St}{H:Hp}{s:Shared}{R:It→Hp→Prop}{E:Value→Shared→Prop}{lo hi:Int}{t u v:Tok}{tk:Nat}(I:Inv X pins σ H s)(h1:-(2 ^ 62)≤lo)(h2:lo<2 ^ 62)(h3:-(2 ^ 62)≤hi)(h4:hi<2 ^ 62)(q:R (Itr lo (hi-lo).toNat) H):wpAny (model X.prog X.w) X.A (pyIter (.ref s.heap.objs.size)) (PIE X pins σ tg R) E { s with heap:=s.heap.push { cls:=.type "range",data:=.fields #[.int lo t,.int hi u,.int 1 v] },toks:=tk }:=by
 refine wpAny_pyIter_range (IsRange.new ..) (small_one h1 h2 h3 h4) ?_
 have I1:Inv X pins σ H { s with heap:=s.heap.push { cls:=.type "range",data:=.fields #[.int lo t,.int hi u,.int 1 v] },toks:=tk }:=I.kept fun b o e=>Heap.get?_push_of_some _ e
 refine⟨(s.heap.push { cls:=.type "range",data:=.fields #[.int lo t,.int hi u,.int 1 v] }).objs.size,[(s.heap.push { cls:=.type "range",data:=.fields #[.int lo t,.int hi u,.int 1 v] }).objs.size],_,_,H,rfl,
  I1.kept (t':=tk) fun b o e=>Heap.get?_push_of_some _ e,xR _ lo (hi-lo).toNat,?_,fun b hb=>?_,q⟩
 ·have e1:lo+((0:Nat):Int)*1=lo:=by simp
  have e2:(((hi-lo).toNat:Nat):Int)-((0:Nat):Int)=Builtin.Range.rangeSize lo hi 1:=by rw[rangeSize_one];split <;> lia
  show IsRangeIter _ _ (lo+((0:Nat):Int)*1) ((((hi-lo).toNat:Nat):Int)-((0:Nat):Int)) 1
  rw[e1,e2]
  exact Heap.get?_push_size _ rfl
 ·have e:b=(s.heap.push { cls:=.type "range",data:=.fields #[.int lo t,.int hi u,.int 1 v] }).objs.size:=by simpa using hb
  subst e
  exact I1.fpOk (Nat.le_refl _) (I1.hok.fresh (Nat.le_refl _))
def aEy(ta:TA):TI:=fun σ H R=>ta σ H fun vs H1=>∃j:Int,vs=[.int j]∧-(2 ^ 62)≤j∧j<2 ^ 62∧R (Itr 0 j.toNat) H1
def aEz(ta:TA):TI:=fun σ H R=>ta σ H fun vs H1=>∃i j:Int,vs=[.int i,.int j]∧(-(2 ^ 62)≤i∧i<2 ^ 62∧-(2 ^ 62)≤j∧j<2 ^ 62)∧R (Itr i (j-i).toNat) H1
theorem bN{a:Expr}{ta:TA}{p pos:Pos}(hg:Gl X "range")(hm:X.mg "range"=none)(ha:PA X [a] ta)(hs:starEach [a] X.env=[(false,eval a X.env)]:=by rfl):PI X tg (.Call (.Name "range" p) [a] [] pos) (aEy ta):=by
 intro pins s σ H R I h
 refine Call_ (gY I hg hm boot_range (PyProof.Rows.callWith_type1 (thn (ha pos pins s σ H _ I h) fun us s1 ⟨vs,H1,I1,r1,q1⟩=>?_) hs rfl))
 obtain⟨j,e,q1,q2,q⟩:=q1
 subst e
 cases r1 with
 |cons r rr=>
  cases rr
  obtain⟨t,rfl⟩:=r
  exact call_range_1 (sB I1 (by lia) (by lia) q1 q2 (by simpa using q))
theorem kP{a b:Expr}{ta:TA}{p pos:Pos}(hg:Gl X "range")(hm:X.mg "range"=none)(ha:PA X [a,b] ta)(hs:starEach [a,b] X.env=[(false,eval a X.env),(false,eval b X.env)]:=by rfl)(hs2:starEach [b] X.env=[(false,eval b X.env)]:=by rfl):
  PI X tg (.Call (.Name "range" p) [a,b] [] pos) (aEz ta):=by
 intro pins s σ H R I h
 refine Call_ (gY I hg hm boot_range (PyProof.Rows.callWith_type1 (thn (ha pos pins s σ H _ I h) fun us s1 ⟨vs,H1,I1,r1,q1⟩=>?_) (by rw[hs,hs2]) (by rw[hs2];rfl)))
 obtain⟨i,j,e,⟨q1,q2,q3,q4⟩,q⟩:=q1
 subst e
 cases r1 with
 |cons r rr=>
  cases rr with
  |cons r' rr=>
   cases rr
   obtain⟨t,rfl⟩:=r
   obtain⟨t',rfl⟩:=r'
   exact call_range_2 (sB I1 q1 q2 q3 q4 q)
def tFor(wi:TI)(g:TG)(tb:TS):TS:=fun D σ H=>wi σ H fun J H1=>∃W:Nat→Nat→St→Hp→Prop,(∃m,W 0 m σ H1)∧∀i m σ H,W i m σ H→
 (J.stop i H∧D.nx σ H)∨(J.go i H∧∃N:St→Hp→Prop,(∀σ' H',N σ' H'→∃m',m'<m∧W (i+1) m' σ' H')∧∀x H',J.yld i H x H'→g x σ H' fun σ2 H2=>tb { D with nx:=N,ct:=N,bk:=D.nx } σ2 H2)
def kQ(fp:List Addr)(h:Heap):List (Addr×Obj):=fp.filterMap fun b=>(h.get? b).map fun o=>(b,o)
theorem hG{fp:List Addr}{h:Heap}{b:Addr}{o:Obj}(hb:b∈fp)(e:h.get? b=some o):(b,o)∈kQ fp h:=List.mem_filterMap.mpr ⟨b,hb,by rw[e];rfl⟩
theorem aAe{fp:List Addr}{h:Heap}{p:Addr×Obj}(hp:p∈kQ fp h):p.1∈fp∧h.get? p.1=some p.2:=by
 obtain⟨b,hb,e⟩:=List.mem_filterMap.mp hp
 cases q:h.get? b with
 |none=>rw[q] at e;cases e
 |some o=>
  rw[q] at e
  have e':(b,o)=p:=Option.some.inj e
  subst e'
  exact⟨hb,q⟩
theorem Inv.pinned{pins:List (Addr×Obj)}{σ:St}{H:Hp}{s:Shared}{fp:List Addr}(I:Inv X pins σ H s)(hf:∀b∈fp,FpOk X pins H b)(ho:∀b∈fp,∃o,s.heap.get? b=some o∧∀v,o.data≠.cell v):Inv X (pins++kQ fp s.heap) σ H s:=
 I.pins_of fun p hp=>(List.mem_append.mp hp).elim (fun z=>I.pin p (List.mem_append_right _ z)) fun z=>by
  obtain⟨hb,e⟩:=aAe z
  obtain⟨f0,f1,f2,_⟩:=hf p.1 hb
  obtain⟨o,e',d⟩:=ho p.1 hb
  rw[e] at e';cases e'
  exact⟨e,f0,f1,f2,d⟩
theorem Inv.unpinned{pins pl:List (Addr×Obj)}{σ:St}{H:Hp}{s:Shared}(I:Inv X (pins++pl) σ H s):Inv X pins σ H s:=I.pins_of fun p hp=>I.pin p (List.mem_append_right _ (List.mem_append_left _ hp))
theorem cA{iter:Expr}{body:List Stmt}{wi:TI}{g:TG}{tb:TS}{pos:Pos}(hp:PassesOwn (model X.prog X.w) X.A X.env X.xe)(hc:X.calm=true)(hi:PI X tg iter wi)(hg:PG X tg g)(hb:PSs X body tb)(hs:∀x,foldedSetIterable iter X.env x=pure x:=by intro _;rfl):PS X (.For tg iter body [] pos) (tFor wi g tb):=by
 intro pins s σ H D I h
 refine wpAny_For (thn (hi pins s σ H _ I h) fun v s1 h1=>thn h1 fun itv s2 h2=>?_) hs
 obtain⟨it,fp,tn,J,H2,e,I2,T,st2,f2,W,⟨m0,w0⟩,turn⟩:=h2
 subst e
 have stat:∀ {H':Hp},(∀b∈fp,H' b=none)→∀b∈fp,FpOk X pins H' b:=fun hn b hb=>⟨hn b hb,(f2 b hb).2⟩
 refine codeAny_forLoop_any (fun n s'=>∃i σ' H',Inv X pins σ' H' s'∧tn i s'.heap∧(∀b∈fp,H' b=none)∧W i n σ' H') ?_ m0 ⟨0,σ,H2,I2,st2,fun b hb=>(f2 b hb).1,w0⟩
 rintro n s3 ⟨i,σ3,H3,I3,st3,fr3,w3⟩
 rcases turn i n σ3 H3 w3 with ⟨stop,qn⟩|⟨go,N,hN,step⟩
 ·refine wpAny_passesOwn hp (thn (T.done X rfl rfl rfl hc i pins s3 σ3 H3 X.xe I3 (stat fr3) st3 stop) fun r s4 ⟨hr,I4⟩=>?_)
  subst hr
  exact wpAny_execs_nil ⟨σ3,H3,I4,qn⟩
 ·refine wpAny_passesOwn hp (thn (T.item X rfl rfl rfl hc i pins s3 σ3 H3 X.xe I3 (stat fr3) st3 go) fun r s4 ⟨u,hr,h4⟩=>?_)
  subst hr
  refine wpAny_passesOwn hp (thn h4 fun _ s5 ⟨x,H5,I5,r5,y5,st5,fr5⟩=>?_)
  have I5':=I5.pinned (stat fr5) (T.obj _ _ st5)
  refine wpAny_passesOwn hp (thn (hg _ s5 σ3 H5 x u _ I5' r5 (step x H5 y5)) fun _ s6 ⟨σ6,H6,I6,q6⟩=>?_)
  refine wpAny_passesOwn hp (thn (hb _ s6 σ6 H6 _ I6 q6) fun f s7 q7=>?_)
  have again:∀ {σ7:St} {H7:Hp},Inv X (pins++kQ fp s5.heap) σ7 H7 s7→N σ7 H7→∃m,m<n∧∃i σ' H',Inv X pins σ' H' s7∧tn i s7.heap∧(∀b∈fp,H' b=none)∧W i m σ' H':=fun {σ7 H7} I7 n7=>by
   obtain⟨m',hm,w7⟩:=hN σ7 H7 n7
   refine⟨m',hm,i+1,σ7,H7,I7.unpinned,T.keep _ _ _ st5 fun b hb o e=>(I7.pin (b,o) (List.mem_append_right _ (List.mem_append_right _ (hG hb e)))).1,fun b hb=>?_,w7⟩
   obtain⟨o,e,d⟩:=T.obj _ _ st5 b hb
   exact(I7.pin (b,o) (List.mem_append_right _ (List.mem_append_right _ (hG hb e)))).2.1
  cases f with
  |next=>obtain⟨σ7,H7,I7,n7⟩:=q7;exact again I7 n7
  |cont=>obtain⟨σ7,H7,I7,n7⟩:=q7;exact again I7 n7
  |brk=>obtain⟨σ7,H7,I7,q7⟩:=q7;exact⟨σ7,H7,I7.unpinned,q7⟩
  |ret v=>obtain⟨x7,σ7,H7,I7,r7,q7⟩:=q7;exact⟨x7,σ7,H7,I7.unpinned,r7,q7⟩
end
theorem fP{K:PySem.W.Frag}{a:Addr}{xs:List V}{g:TG}{tb:TS}{D:Ends}{σ:St}{H:Hp}(Pv:Nat→St→Hp→Prop)(h0:Pv 0 σ H)(hl:∀i σ H,i≤xs.length→Pv i σ H→SqL K H a xs)(hs:∀i x σ H,xs[i]?=some x→Pv i σ H→g x σ H fun σ2 H2=>tb { D with nx:=Pv (i+1),ct:=Pv (i+1),bk:=D.nx } σ2 H2)(hd:∀σ H,Pv xs.length σ H→D.nx σ H):
  ∃W:Nat→Nat→St→Hp→Prop,(∃m,W 0 m σ H)∧∀i m σ H,W i m σ H→
   ((Itl K a).stop i H∧D.nx σ H)∨((Itl K a).go i H∧∃N:St→Hp→Prop,(∀σ' H',N σ' H'→∃m',m'<m∧W (i+1) m' σ' H')∧∀x H',(Itl K a).yld i H x H'→g x σ H' fun σ2 H2=>tb { D with nx:=N,ct:=N,bk:=D.nx } σ2 H2):=by
 refine⟨fun i m σ H=>m=xs.length-i∧i≤xs.length∧Pv i σ H,⟨xs.length,by simp,Nat.zero_le _,h0⟩,?_⟩
 rintro i m σ H ⟨rfl,hi,p⟩
 have q:=hl i σ H hi p
 by_cases hlt:i<xs.length
 ·refine .inr ⟨⟨xs,xs[i],q,by simp[hlt]⟩,Pv (i+1),fun σ' H' p'=>⟨xs.length-(i+1),by lia,rfl,hlt,p'⟩,fun x H' y=>?_⟩
  obtain⟨e,y⟩:=y
  subst e
  exact hs i x σ _ (y xs q) p
 ·have e:i=xs.length:=by lia
  subst e
  exact .inl ⟨⟨xs,q,Nat.le_refl _⟩,hd σ H p⟩
theorem pI{K:PySem.W.Frag}{a:Addr}{xs:List V}{g:TG}{tb:TS}{D:Ends}{σ:St}{H:Hp}(Pv:Nat→St→Hp→Prop)(h0:Pv 0 σ H)(hl:∀i σ H,i≤xs.length→Pv i σ H→SqT K H a xs)(hs:∀i x σ H,xs[i]?=some x→Pv i σ H→g x σ H fun σ2 H2=>tb { D with nx:=Pv (i+1),ct:=Pv (i+1),bk:=D.nx } σ2 H2)(hd:∀σ H,Pv xs.length σ H→D.nx σ H):
  ∃W:Nat→Nat→St→Hp→Prop,(∃m,W 0 m σ H)∧∀i m σ H,W i m σ H→
   ((Itt K a).stop i H∧D.nx σ H)∨((Itt K a).go i H∧∃N:St→Hp→Prop,(∀σ' H',N σ' H'→∃m',m'<m∧W (i+1) m' σ' H')∧∀x H',(Itt K a).yld i H x H'→g x σ H' fun σ2 H2=>tb { D with nx:=N,ct:=N,bk:=D.nx } σ2 H2):=by
 refine⟨fun i m σ H=>m=xs.length-i∧i≤xs.length∧Pv i σ H,⟨xs.length,by simp,Nat.zero_le _,h0⟩,?_⟩
 rintro i m σ H ⟨rfl,hi,p⟩
 have q:=hl i σ H hi p
 by_cases hlt:i<xs.length
 ·refine .inr ⟨⟨xs,xs[i],q,by simp[hlt]⟩,Pv (i+1),fun σ' H' p'=>⟨xs.length-(i+1),by lia,rfl,hlt,p'⟩,fun x H' y=>?_⟩
  obtain⟨e,y⟩:=y
  subst e
  exact hs i x σ _ (y xs q) p
 ·have e:i=xs.length:=by lia
  subst e
  exact .inl ⟨⟨xs,q,Nat.le_refl _⟩,hd σ H p⟩
theorem cI{lo:Int}{n:Nat}{g:TG}{tb:TS}{D:Ends}{σ:St}{H:Hp}(Pv:Nat→St→Hp→Prop)(h0:Pv 0 σ H)(hs:∀i σ H,i<n→Pv i σ H→g (.int (lo+i)) σ H fun σ2 H2=>tb { D with nx:=Pv (i+1),ct:=Pv (i+1),bk:=D.nx } σ2 H2)(hd:∀σ H,Pv n σ H→D.nx σ H):
  ∃W:Nat→Nat→St→Hp→Prop,(∃m,W 0 m σ H)∧∀i m σ H,W i m σ H→
   ((Itr lo n).stop i H∧D.nx σ H)∨((Itr lo n).go i H∧∃N:St→Hp→Prop,(∀σ' H',N σ' H'→∃m',m'<m∧W (i+1) m' σ' H')∧∀x H',(Itr lo n).yld i H x H'→g x σ H' fun σ2 H2=>tb { D with nx:=N,ct:=N,bk:=D.nx } σ2 H2):=by
 refine⟨fun i m σ H=>m=n-i∧i≤n∧Pv i σ H,⟨n,by simp,Nat.zero_le _,h0⟩,?_⟩
 rintro i m σ H ⟨rfl,hi,p⟩
 by_cases hlt:i<n
 ·refine .inr ⟨hlt,Pv (i+1),fun σ' H' p'=>⟨n-(i+1),by lia,rfl,hlt,p'⟩,fun x H' y=>?_⟩
  obtain⟨e,y⟩:=y
  subst e y
  exact hs i σ _ hlt p
 ·have e:i=n:=by lia
  subst e
  exact .inl ⟨Nat.le_refl _,hd σ H p⟩
theorem sC{c:TT}{tb:TS}{D:Ends}{σ:St}{H:Hp}(Pv:St→Hp→Prop)(μ:St→Hp→Nat)(h0:Pv σ H)(hs:∀σ H,Pv σ H→c σ H fun b H1=>if b=true then tb { D with nx:=fun σ' H'=>Pv σ' H'∧μ σ' H'<μ σ H,ct:=fun σ' H'=>Pv σ' H'∧μ σ' H'<μ σ H,bk:=D.nx } σ H1 else D.nx σ H1)(mono:∀σ H Q Q',(∀b H1,Q b H1→Q' b H1)→c σ H Q→c σ H Q'):aAc c tb D σ H:=by
 refine⟨fun m σ H=>m=μ σ H∧Pv σ H,⟨_,rfl,h0⟩,?_⟩
 rintro m σ H ⟨rfl,p⟩
 refine mono σ H _ _ (fun b H1 q=>?_) (hs σ H p)
 cases b with
 |true=>exact⟨_,fun σ' H' ⟨p',l⟩=>⟨_,l,rfl,p'⟩,q⟩
 |false=>exact q
end L2
namespace L2
open PySem PySem.Spec PyProof.Rows
abbrev R2:=V→V→Hp→VK→Prop
def OpR(X:Cx)(f:Value→Value→Sem Value)(r:R2):Prop:=
 ∀ (pins:List (Addr×Obj)) (s:Shared) (σ:St) (H:Hp) (x y:V) (v u:Value) (Q:VK),Inv X pins σ H s→RelV x v→RelV y u→r x y H Q→
  wpAny (model X.prog X.w) X.A (f v u) (EP X pins σ Q) X.xe s
def cW(X:Cx)(f:Value)(r:List V→Hp→VK→Prop):Prop:=
 ∀ (pins:List (Addr×Obj)) (s:Shared) (σ:St) (H:Hp) (xs:List V) (us:List Value) (Q:VK),Inv X pins σ H s→Vals xs us→r xs H Q→
  wpAny (model X.prog X.w) X.A (call f us) (EP X pins σ Q) X.xe s
def tOp(r:R2)(ta tb:TE):TE:=fun σ H Q=>ta σ H fun x H1=>tb σ H1 fun y H2=>r x y H2 Q
def rI(C:Int→Int→Prop)(g:Int→Int→V):R2:=fun x y H Q=>∃i j,x=.int i∧y=.int j∧C i j∧Q (g i j) H
def rI0(g:Int→Int→V):R2:=fun x y H Q=>∃i j,x=.int i∧y=.int j∧Q (g i j) H
section
variable {X:Cx} {a b c:Expr} {ta tb tc:TE} {pos:Pos}
theorem binT(ha:PE X a ta)(hb:PE X b tb){pins:List (Addr×Obj)}{s:Shared}{σ:St}{H:Hp}{R:V→V→Hp→Prop}(I:Inv X pins σ H s)(h:ta σ H fun x H1=>tb σ H1 fun y H2=>R x y H2){Q:Value→Shared→Prop}{f:Value→Value→Sem Value}(hf:∀v u s2 x y H2,Inv X pins σ H2 s2→RelV x v→RelV y u→R x y H2→wpAny (model X.prog X.w) X.A (f v u) Q X.xe s2):
  wpAny (model X.prog X.w) X.A (eval a X.env) (fun v s₁=>wpAny (model X.prog X.w) X.A (eval b X.env) (fun u s₂=>wpAny (model X.prog X.w) X.A (f v u) Q X.xe s₂) X.xe s₁) X.xe s:=by
 refine thn (ha pins s σ H _ I h) fun v s1 ⟨x,H1,I1,r1,q1⟩=>?_
 refine thn (hb pins s1 σ H1 _ I1 q1) fun u s2 ⟨y,H2,I2,r2,q2⟩=>?_
 exact hf v u s2 x y H2 I2 r1 r2 q2
theorem aY{op:Operator}{r:R2}(ho:OpR X (binaryOp op) r)(ha:PE X a ta)(hb:PE X b tb):PE X (.BinOp a op b pos) (tOp r ta tb):=by
 intro pins s σ H Q I h
 exact wpAny_BinOp (binT ha hb I h fun v u s2 x y H2 I2 rx ry q=>ho pins s2 σ H2 x y v u Q I2 rx ry q)
theorem opI{f:Value→Value→Sem Value}{C:Int→Int→Prop}{g:Int→Int→Int}(rule:∀ (i j:Int) (t u:Tok) (s:Shared) (Q:Value→Shared→Prop) (E:Value→Shared→Prop),C i j→Q (.int (g i j) s.toks) { s with toks:=s.toks+1 }→wpAny (model X.prog X.w) X.A (f (.int i t) (.int j u)) Q E s):
  OpR X f (rI C fun i j=>.int (g i j)):=by
 intro pins s σ H x y v u Q I rx ry h
 obtain⟨i,j,rfl,rfl,hc,q⟩:=h
 obtain⟨t,rfl⟩:=rx
 obtain⟨t',rfl⟩:=ry
 exact rule i j t t' s _ _ hc ⟨.int (g i j),H,I.tok _,⟨_,rfl⟩,q⟩
theorem opI0{f:Value→Value→Sem Value}{g:Int→Int→Int}(rule:∀ (i j:Int) (t u:Tok) (s:Shared) (Q:Value→Shared→Prop) (E:Value→Shared→Prop),Q (.int (g i j) s.toks) { s with toks:=s.toks+1 }→wpAny (model X.prog X.w) X.A (f (.int i t) (.int j u)) Q E s):
  OpR X f (rI0 fun i j=>.int (g i j)):=by
 intro pins s σ H x y v u Q I rx ry h
 obtain⟨i,j,rfl,rfl,q⟩:=h
 obtain⟨t,rfl⟩:=rx
 obtain⟨t',rfl⟩:=ry
 exact rule i j t t' s _ _ ⟨.int (g i j),H,I.tok _,⟨_,rfl⟩,q⟩
theorem opB0{f:Value→Value→Sem Value}{g:Int→Int→Bool}(rule:∀ (i j:Int) (t u:Tok) (s:Shared) (Q:Value→Shared→Prop) (E:Value→Shared→Prop),Q (.bool (g i j)) s→wpAny (model X.prog X.w) X.A (f (.int i t) (.int j u)) Q E s):
  OpR X f (rI0 fun i j=>.bl (g i j)):=by
 intro pins s σ H x y v u Q I rx ry h
 obtain⟨i,j,rfl,rfl,q⟩:=h
 obtain⟨t,rfl⟩:=rx
 obtain⟨t',rfl⟩:=ry
 exact rule i j t t' s _ _ ⟨.bl (g i j),H,I,rfl,q⟩
def CDiv(i j:Int):Prop:=0<j∧j<1073741824
def CPow(i j:Int):Prop:=0≤j∧j≤1000000∧i.natAbs<2 ^ 64
def CMul(i j:Int):Prop:=(-(2 ^ 64)<i∧i<2 ^ 64)∨(-(2 ^ 64)<j∧j<2 ^ 64)
theorem CMul.ok{i j:Int}(h:CMul i j):IntMulOk i j:=by
 rcases h with ⟨h1,h2⟩|⟨h1,h2⟩
 ·exact .of_left (intBits_le_64 h1 h2)
 ·exact .of_right (intBits_le_64 h1 h2)
theorem cL:OpR X (binaryOp .Add) (rI0 fun i j=>.int (i+j)):=opI0 fun _ _ _ _ _ _ _ q=>add_int q
theorem jI:OpR X (binaryOp .Sub) (rI0 fun i j=>.int (i-j)):=opI0 fun _ _ _ _ _ _ _ q=>sub_int q
theorem fX:OpR X (binaryOp .Mult) (rI CMul fun i j=>.int (i*j)):=opI fun _ _ _ _ _ _ _ hc q=>mul_int q hc.ok
theorem pJ:OpR X (binaryOp .FloorDiv) (rI CDiv fun i j=>.int (i / j)):=opI fun i j _ _ _ _ _ hc q=>by
 have h1:(0:Int)<j:=hc.1
 have h2:j<1073741824:=hc.2
 exact floordiv_int (by lia) (by rw[Int.fdiv_eq_ediv_of_nonneg i (by lia)];exact q) (.inl (PyProof.noPylong_small (by lia)))
theorem eJ:OpR X (binaryOp .Mod) (rI (fun _ j=>0<j) fun i j=>.int (i % j)):=opI fun i j _ _ _ _ _ hc q=>by
 have h1:(0:Int)<j:=hc
 exact mod_int' (by lia) (by rw[Int.fmod_eq_emod_of_nonneg i (by lia)];exact q)
theorem aDR:OpR X (binaryOp .Pow) (rI CPow fun i j=>.int (i ^ j.toNat)):=opI fun _ _ _ _ _ _ _ hc q=>pow_int_small hc.1 hc.2.1 hc.2.2 q
end
def scal:V→V→Bool
 |.non,.non=>true|.non,.int _=>true|.int _,.non=>true|.non,.bl _=>true|.bl _,.non=>true|.non,.str _=>true|.str _,.non=>true
 |.int _,.int _=>true|.bl _,.bl _=>true|.str _,.str _=>true|.byt _,.byt _=>true
 |.int _,.str _=>true|.str _,.int _=>true|.bl _,.str _=>true|.str _,.bl _=>true
 |_,_=>false
def rEq:R2:=fun x y H Q=>scal x y=true∧Q (.bl (decide (x=y))) H
def rNe:R2:=fun x y H Q=>scal x y=true∧Q (.bl (!decide (x=y))) H
theorem vW{i j:Int}:decide (V.int i=V.int j)=(i==j):=by
 rw[Bool.eq_iff_iff]
 simp
theorem aAf{i j:Bool}:decide (V.bl i=V.bl j)=(i==j):=by
 rw[Bool.eq_iff_iff]
 simp
theorem vX{i j:Str}:decide (V.str i=V.str j)=(i==j):=by
 rw[Bool.eq_iff_iff]
 simp
theorem vY{i j:Array UInt8}:decide (V.byt i=V.byt j)=(i.toList==j.toList):=by
 rw[Bool.eq_iff_iff]
 cases i
 cases j
 simp
section
variable {X:Cx} {a b c:Expr} {ta tb tc:TE} {pos:Pos}
theorem bO{pins:List (Addr×Obj)}{σ:St}{H:Hp}{s:Shared}{Q:VK}{k k':Bool}(I:Inv X pins σ H s)(q:Q (.bl k) H)(e:k=k'):EP X pins σ Q (.bool k') s:=by
 subst e
 exact⟨.bl k,H,I,rfl,q⟩
theorem dM:OpR X (compareOp .Eq) rEq:=by
 intro pins s σ H x y v u Q I rx ry h
 obtain⟨hs,q⟩:=h
 cases x with
 |non=>
  cases rx
  cases y with
  |non=>cases ry;exact PySem.EqNone.eq_none_none (bO I q (by simp))
  |bl j=>cases ry;exact PySem.EqNone.eq_none_bool (bO I q (by simp))
  |int j=>obtain⟨t',rfl⟩:=ry;exact PySem.EqNone.eq_none_int (bO I q (by simp))
  |str j=>obtain⟨t',rfl⟩:=ry;exact PySem.EqNone.eq_none_str (bO I q (by simp))
  |_=>exact absurd (show false=true from hs) Bool.false_ne_true
 |bl i=>
  cases rx
  cases y with
  |non=>cases ry;exact PySem.EqNone.eq_bool_none (bO I q (by simp))
  |bl j=>cases ry;exact eq_bool (bO I q aAf)
  |str j=>obtain⟨t',rfl⟩:=ry;exact PySem.EqMixed.eq_bool_str (bO I q (by simp))
  |_=>exact absurd (show false=true from hs) Bool.false_ne_true
 |int i=>
  obtain⟨t,rfl⟩:=rx
  cases y with
  |non=>cases ry;exact PySem.EqNone.eq_int_none (bO I q (by simp))
  |int j=>obtain⟨t',rfl⟩:=ry;exact eq_int (bO I q vW)
  |str j=>obtain⟨t',rfl⟩:=ry;exact PySem.EqMixed.eq_int_str (bO I q (by simp))
  |_=>exact absurd (show false=true from hs) Bool.false_ne_true
 |str i=>
  obtain⟨t,rfl⟩:=rx
  cases y with
  |non=>cases ry;exact PySem.EqNone.eq_str_none (bO I q (by simp))
  |bl j=>cases ry;exact PySem.EqMixed.eq_str_bool (bO I q (by simp))
  |int j=>obtain⟨t',rfl⟩:=ry;exact PySem.EqMixed.eq_str_int (bO I q (by simp))
  |str j=>obtain⟨t',rfl⟩:=ry;exact eq_str (bO I q vX)
  |_=>exact absurd (show false=true from hs) Bool.false_ne_true
 |byt i=>
  obtain⟨t,rfl⟩:=rx
  cases y with
  |byt j=>obtain⟨t',rfl⟩:=ry;exact PySem.W.eq_bytes (bO I q vY)
  |_=>exact absurd (show false=true from hs) Bool.false_ne_true
 |_=>cases y <;> exact absurd (show false=true from hs) Bool.false_ne_true
theorem nX:OpR X (compareOp .NotEq) rNe:=by
 intro pins s σ H x y v u Q I rx ry h
 obtain⟨hs,q⟩:=h
 cases x with
 |non=>
  cases rx
  cases y with
  |non=>cases ry;exact PySem.EqNone.ne_none_none (bO I q (by simp))
  |bl j=>cases ry;exact PySem.EqNone.ne_none_bool (bO I q (by simp))
  |int j=>obtain⟨t',rfl⟩:=ry;exact PySem.EqNone.ne_none_int (bO I q (by simp))
  |str j=>obtain⟨t',rfl⟩:=ry;exact PySem.EqNone.ne_none_str (bO I q (by simp))
  |_=>exact absurd (show false=true from hs) Bool.false_ne_true
 |bl i=>
  cases rx
  cases y with
  |non=>cases ry;exact PySem.EqNone.ne_bool_none (bO I q (by simp))
  |bl j=>cases ry;exact ne_bool (bO I q (congrArg not aAf))
  |str j=>obtain⟨t',rfl⟩:=ry;exact PySem.EqMixed.ne_bool_str (bO I q (by simp))
  |_=>exact absurd (show false=true from hs) Bool.false_ne_true
 |int i=>
  obtain⟨t,rfl⟩:=rx
  cases y with
  |non=>cases ry;exact PySem.EqNone.ne_int_none (bO I q (by simp))
  |int j=>obtain⟨t',rfl⟩:=ry;exact ne_int (bO I q (congrArg not vW))
  |str j=>obtain⟨t',rfl⟩:=ry;exact PySem.EqMixed.ne_int_str (bO I q (by simp))
  |_=>exact absurd (show false=true from hs) Bool.false_ne_true
 |str i=>
  obtain⟨t,rfl⟩:=rx
  cases y with
  |non=>cases ry;exact PySem.EqNone.ne_str_none (bO I q (by simp))
  |bl j=>cases ry;exact PySem.EqMixed.ne_str_bool (bO I q (by simp))
  |int j=>obtain⟨t',rfl⟩:=ry;exact PySem.EqMixed.ne_str_int (bO I q (by simp))
  |str j=>obtain⟨t',rfl⟩:=ry;exact ne_str (bO I q (congrArg not vX))
  |_=>exact absurd (show false=true from hs) Bool.false_ne_true
 |byt i=>
  obtain⟨t,rfl⟩:=rx
  cases y with
  |byt j=>obtain⟨t',rfl⟩:=ry;exact PySem.W.ne_bytes (bO I q (congrArg not vY))
  |_=>exact absurd (show false=true from hs) Bool.false_ne_true
 |_=>cases y <;> exact absurd (show false=true from hs) Bool.false_ne_true
theorem hJ:OpR X (compareOp .Lt) (rI0 fun i j=>.bl (decide (i<j))):=opB0 fun _ _ _ _ _ _ _ q=>lt_int q
theorem aCm:OpR X (compareOp .LtE) (rI0 fun i j=>.bl (decide (i≤j))):=opB0 fun _ _ _ _ _ _ _ q=>le_int q
theorem nY:OpR X (compareOp .Gt) (rI0 fun i j=>.bl (decide (j<i))):=opB0 fun _ _ _ _ _ _ _ q=>gt_int q
theorem aCn:OpR X (compareOp .GtE) (rI0 fun i j=>.bl (decide (j≤i))):=opB0 fun _ _ _ _ _ _ _ q=>ge_int q
theorem sD:OpR X (compareOp .Is) (fun x y H Q=>y=.non∧Q (.bl (decide (x=.non))) H):=by
 intro pins s σ H x y v u Q I rx ry h
 obtain⟨rfl,q⟩:=h
 cases ry
 refine is_none_gen (bO I q ?_)
 cases x <;> first
  |(cases rx;rfl)
  |(obtain⟨t,rfl⟩:=rx;rfl)
theorem lU:OpR X (compareOp .IsNot) (fun x y H Q=>y=.non∧Q (.bl (!decide (x=.non))) H):=by
 intro pins s σ H x y v u Q I rx ry h
 obtain⟨rfl,q⟩:=h
 cases ry
 refine isnot_none_gen (bO I q ?_)
 cases x <;> first
  |(cases rx;rfl)
  |(obtain⟨t,rfl⟩:=rx;rfl)
theorem aX(b:Expr){op:CmpOp}(h:op≠.In:=by decide)(h2:op≠.NotIn:=by decide):behindInMarks op b=false:=by
 have e1:(op==CmpOp.In)=false:=by cases op <;> first|rfl|exact absurd rfl h
 have e2:(op==CmpOp.NotIn)=false:=by cases op <;> first|rfl|exact absurd rfl h2
 cases b <;> simp[behindInMarks,e1,e2]
theorem iB{op:CmpOp}{r:R2}(ho:OpR X (compareOp op) r)(ha:PE X a ta)(hb:PE X b tb)(hm:behindInMarks op b=false):PE X (.Compare a [op] [b] pos) (tOp r ta tb):=by
 intro pins s σ H Q I h
 exact wpAny_Compare1 (binT ha hb I h fun v u s2 x y H2 I2 rx ry q=>ho pins s2 σ H2 x y v u Q I2 rx ry q) hm
def fL(t:TE):TT:=fun σ H Q=>t σ H fun x H'=>∃k,x=.bl k∧Q k H'
theorem aV{op:CmpOp}{r:R2}(ho:OpR X (compareOp op) r)(ha:PE X a ta)(hb:PE X b tb)(hm:behindInMarks op b=false):PT X (.Compare a [op] [b] pos) (fL (tOp r ta tb)):=by
 intro pins s σ H Q I h
 refine wpAny_isTrue_Compare1 (thn (ha pins s σ H _ I h) fun v s1 ⟨x,H1,I1,r1,q1⟩=>thn (hb pins s1 σ H1 _ I1 q1) fun u s2 ⟨y,H2,I2,r2,q2⟩=>
  thn (ho pins s2 σ H2 x y v u _ I2 r1 r2 q2) fun c s3 ⟨z,H3,I3,r3,k,e,q3⟩=>?_) hm
 subst e
 cases r3
 exact wpAny_truthy_bool ⟨H3,I3,q3⟩
def aDS(r r':R2)(ta tb tc:TE):TE:=fun σ H Q=>ta σ H fun x H1=>tb σ H1 fun y H2=>r x y H2 fun z H3=>∃k,z=.bl k∧
 (if k=true then tc σ H3 fun w' H4=>r' y w' H4 Q else Q (.bl false) H3)
theorem aBt{op op':CmpOp}{r r':R2}(ho:OpR X (compareOp op) r)(ho':OpR X (compareOp op') r')(ha:PE X a ta)(hb:PE X b tb)(hc:PE X c tc)(hm:lastMarks [op,op'] [b,c]=false:=by with_unfolding_all rfl):PE X (.Compare a [op,op'] [b,c] pos) (aDS r r' ta tb tc):=by
 intro pins s σ H Q I h
 refine Compare_chain (thn (ha pins s σ H _ I h) fun v s1 ⟨x,H1,I1,r1,q1⟩=>chain_link (thn (hb pins s1 σ H1 _ I1 q1) fun u s2 ⟨y,H2,I2,r2,q2⟩=>
  thn (ho pins s2 σ H2 x y v u _ I2 r1 r2 q2) fun d s3 ⟨z,H3,I3,r3,k,e,q3⟩=>?_)) hm
 subst e
 cases r3
 refine wpAny_truthy_bool ?_
 cases k with
 |false=>exact ite_ff ⟨.bl false,H3,I3,rfl,q3⟩
 |true=>exact ite_tt (chain_last (thn (hc pins s3 σ H3 _ I3 q3) fun w' s4 ⟨z',H4,I4,r4,q4⟩=>ho' pins s4 σ H4 y z' u w' Q I4 r2 r4 q4))
theorem nZ:(sizeLine:Nat)<2 ^ 63:=by rw[sizeLine_eq];decide
theorem rQ{x:V}{us:List Value}(r:Vals [x] us):∃u,us=[u]∧RelV x u:=by
 cases r with
 |cons r1 r2=>cases r2;exact⟨_,rfl,r1⟩
theorem xS{x y:V}{us:List Value}(r:Vals [x,y] us):∃u w',us=[u,w']∧RelV x u∧RelV y w':=by
 cases r with
 |cons r1 r2=>
  cases r2 with
  |cons r3 r4=>cases r4;exact⟨_,_,rfl,r1,r3⟩
theorem aBu:cW X (.builtin "abs") (fun xs H Q=>∃i,xs=[.int i]∧Q (.int (if i<0 then -i else i)) H):=by
 intro pins s σ H xs us Q I r h
 obtain⟨i,rfl,q⟩:=h
 obtain⟨u,rfl,t,rfl⟩:=rQ r
 exact call_abs_int fun u tk=>⟨.int (if i<0 then -i else i),H,I.tok _,⟨_,rfl⟩,q⟩
theorem iU(hc:X.calm=true):cW X (.builtin "max") (fun xs H Q=>∃i j,xs=[.int i,.int j]∧Q (.int (if j > i then j else i)) H):=by
 intro pins s σ H xs us Q I r h
 obtain⟨i,j,rfl,q⟩:=h
 obtain⟨u,w',rfl,⟨t,rfl⟩,⟨t',rfl⟩⟩:=xS r
 refine max_two_ints (I.ok.hd hc) fun h' tk k=>⟨_,H,I.kept k,?_,q⟩
 by_cases hj:j > i
 ·rw[if_pos hj,if_pos hj];exact⟨_,rfl⟩
 ·rw[if_neg hj,if_neg hj];exact⟨_,rfl⟩
theorem qL(hc:X.calm=true):cW X (.builtin "min") (fun xs H Q=>∃i j,xs=[.int i,.int j]∧Q (.int (if j<i then j else i)) H):=by
 intro pins s σ H xs us Q I r h
 obtain⟨i,j,rfl,q⟩:=h
 obtain⟨u,w',rfl,⟨t,rfl⟩,⟨t',rfl⟩⟩:=xS r
 refine min_two_ints (I.ok.hd hc) fun h' tk k=>⟨_,H,I.kept k,?_,q⟩
 by_cases hj:j<i
 ·rw[if_pos hj,if_pos hj];exact⟨_,rfl⟩
 ·rw[if_neg hj,if_neg hj];exact⟨_,rfl⟩
theorem vA:cW X (.builtin "divmod") (fun xs H Q=>∃i j,xs=[.int i,.int j]∧CDiv i j∧∀p,H p=none→Q (.ref p) (upd H p (.tup [.int (i / j),.int (i % j)]))):=by
 intro pins s σ H xs us Q I r h
 obtain⟨i,j,rfl,⟨h1,h2⟩,q⟩:=h
 obtain⟨u,w',rfl,⟨t,rfl⟩,⟨t',rfl⟩⟩:=xS r
 refine divmod_int (by lia) ?_ (.inl (PyProof.noPylong_small (by lia)))
 rw[Int.fdiv_eq_ediv_of_nonneg i (by lia),Int.fmod_eq_emod_of_nonneg i (by lia)]
 have hn:H s.heap.objs.size=none:=I.hok.fresh (Nat.le_refl _)
 refine⟨.ref s.heap.objs.size,_,?_,rfl,q _ hn⟩
 refine I.laid (fun b o e=>Heap.get?_push_of_some _ e) (Nat.le_refl _) ⟨by simp only[List.length_cons,List.length_nil];rw[sizeLine_eq];decide,[.int (i / j) s.toks,.int (i % j) (s.toks+1)],.cons ⟨_,rfl⟩ (.cons ⟨_,rfl⟩ .nil),?_⟩
 exact⟨_,Heap.get?_push_size s.heap rfl,rfl,0,rfl,rfl⟩
end
end L2
namespace L2
open PySem PySem.Spec PyProof.Rows
structure ObjM(h:Heap)(x dx C:Addr)(mA:Str→Option Value):Prop where
 obj:h.get? x=some (PySem.W.instObj C dx)
 ns:h.Ns1 dx mA
 ne:dx≠x
theorem aAg{h:Heap}{dx:Addr}{mA:Str→Option Value}(n:h.Ns1 dx mA):∃od,h.get? dx=some od∧∀name,PySem.W.lookIn name od=some (mA name):=by
 obtain⟨o,es,ep,ho,hd,hk,_,hm⟩:=n
 refine⟨o,ho,fun name=>?_⟩
 have e:=hm name
 unfold nsFind findBy at e
 rw[← Array.find?_toList] at e
 unfold PySem.W.lookIn
 rw[hd]
 dsimp only
 split
 ·rename_i y q
  rw[q] at e
  exact congrArg some e
 ·rename_i q
  rw[q] at e
  have a:es.toList.any (·.refKey)=false:=by
   rw[List.any_eq_false]
   intro y hy
   obtain⟨z,t,hkey⟩:=hk y (Array.mem_toList_iff.mp hy)
   simp[DictEntry.refKey,hkey]
  have a':¬ es.toList.any (·.refKey)=true:=by rw[a];exact Bool.false_ne_true
  rw[if_neg a']
  exact congrArg some e
theorem ObjM.look{h:Heap}{x dx C:Addr}{mA:Str→Option Value}(I:ObjM h x dx C mA):∃od,PySem.W.InstAt h x (PySem.W.instObj C dx) C (some od)∧∀name,PySem.W.lookIn name od=some (mA name):=
 let ⟨od,ho,hl⟩:=aAg I.ns
 ⟨od,⟨I.obj,rfl,rfl,ho⟩,hl⟩
section
variable {prog:Program} {w:World} {A:Around} {E:Value→Shared→Prop} {s:Shared} {K:PySem.W.Frag} {x dx C f:Addr} {mA:Str→Option Value} {name:Str} {v:Value}
theorem aCD{expr:Bool}{Q:Value→Shared→Prop}(X:K.In s.heap)(I:ObjM s.heap x dx C mA)(hg:PySem.W.plainGet K C name=true)(hh:PySem.W.hasDictIn K C=true)(ha:PySem.W.findIn K (.ref C) name=some none)(hv:mA name=some v)(hv':PySem.W.handedIn v=true)(h:Q v { s with toks:=s.toks+1 }):
  wpAny (model prog w) A (getAttr (.ref x) name expr) Q E s:=by
 obtain⟨od,J,hl⟩:=I.look
 exact PySem.W.get_value X J (PySem.W.plainGet_of hg).1 (PySem.W.findObj_own hh ha rfl (by rw[hl,hv])) hv' h
theorem aBv{pl:Sem Bool}{Q:Value×List Value→Shared→Prop}(X:K.In s.heap)(I:ObjM s.heap x dx C mA)(hg:PySem.W.plainGet K C name=true)(hf:PySem.W.findIn K (.ref C) name=some (some (.ref f)))(ht:PySem.W.isFn K (.ref f)=true)(hv:mA name=none)(h:Q (.ref f,[.ref x]) s):
  wpAny (model prog w) A (getMethod (.ref x) name pl) Q E s:=by
 obtain⟨od,J,hl⟩:=I.look
 exact PySem.W.method_fn X J (PySem.W.plainGet_of hg).1 (PySem.W.plainGet_of hg).2 hf (beq_iff_eq.mp ht) (by show (PySem.W.lookIn name od).map (·.isSome)=some false;rw[hl,hv];rfl) h
theorem aCE{ns:List Str}{Q:Unit→Shared→Prop}(X:K.In s.heap)(I:ObjM s.heap x dx C mA)(hs:PySem.W.findIn K (.ref C) "__setattr__"=some (some (.builtin "object.__setattr__")))(hp:PySem.W.plainOver K C=true)(ht:PySem.W.takerIn K C name=some none)(hh:PySem.W.hasDictIn K C=true)(hw:PySem.Within mA ns)(hsz:ns.length≤sizeLine)(h:∀h',ObjM h' x dx C (fun y=>if y=name then some v else mA y)→Heap.SameBut dx s.heap h'→Q () { s with heap:=h',toks:=s.toks+2 }):
  wpAny (model prog w) A (setAttr (.ref x) name v) Q E s:=by
 obtain⟨od,J,hl⟩:=I.look
 refine PySem.W.set_plain X J hs (PySem.W.osa_open (s:={ s with toks:=s.toks+1 }) (r:=none) X J hp ht fun b=>?_)
 obtain⟨cd,hc,hd'⟩:=PySem.W.any_some hh
 have hx:s.heap.get? x=some ⟨.ref C,some dx,.plain,#[]⟩:=I.obj
 refine wpAny_bind (wpAny_pure (wpAny_bind (wpAny_bind (wpAny_loadPart hx (wpAny_bind (PySem.W.Looks.here (s:={ s with toks:=s.toks+1 }) (PySem.W.looks_clsIn X hc) ?_))))))
 rw[hd']
 refine wpAny_pure (a:=some dx) (wpAny_bind (wpAny_pure (wpAny_bind ?_)))
 refine wpAny_nsSet1 (s:={ s with toks:=s.toks+1 }) I.ns fun h' hn2 hs2=>?_
 obtain⟨oD,esD,epD,hoD,hdD,hcD⟩:=hn2.count (PySem.Within.cons name v hw)
 refine wpAny_bind (wpAny_lookBehind hoD (by rw[hdD];exact pastItsLine_dict (Nat.le_trans hcD (by rw[List.length_cons];lia))) ?_)
 exact wpAny_pure (h _ ⟨(hs2.2 _ (Ne.symm I.ne)).trans I.obj,hn2,I.ne⟩ hs2)
theorem aBw{R:Result→Shared→Prop}{vs:List Value}{kw:List (Str×Value)}(X:K.In s.heap)(hm:PySem.W.makesIn K C=true)(hi:PySem.W.findIn K (.ref C) "__init__"=some (some (.ref f)))(hf:PySem.W.typeIn K (.ref f)=some (.type "function"))(h:codeAny (model prog w) (A.under (.builtin "type.__call__" ⟨.ref C::vs,kw⟩)) (.call (.ref f) ⟨.ref (s.heap.objs.size+1)::vs,kw⟩) (PySem.W.InitBack (s.heap.objs.size+1) R)
   { s with heap:=(s.heap.push PySem.W.emptyDict).push (PySem.W.instObj C s.heap.objs.size) }):
  codeAny (model prog w) A (.call (.ref C) ⟨vs,kw⟩) R s:=by
 obtain⟨hh,g,d,t,os⟩:=s
 exact PySem.W.make_core (PySem.W.makes_of X hm) (PySem.W.looks_findIn X hi) (fun self=>PySem.W.bind_fn X self hf) (.inl rfl) h
end
def putF(f:Str)(v:V):List (Str×V)→List (Str×V)
 |[]=>[(f,v)]
 |(g,x)::r=>if g=f then (g,v)::r else (g,x)::putF f v r
theorem bY(f g:Str)(v:V):∀fs:List (Str×V),(putF f v fs).lookup g=if g=f then some v else fs.lookup g
 |[]=>by
  show List.lookup g [(f,v)]=_
  by_cases h:g=f
  ·have hb:(g==f)=true:=beq_iff_eq.mpr h
   simp only[List.lookup,hb,if_pos h]
  ·have hb:(g==f)=false:=beq_eq_false_iff_ne.mpr h
   simp only[List.lookup,hb,if_neg h]
 |(k,x)::r=>by
  have ih:=bY f g v r
  rw[show putF f v ((k,x)::r)=(if k=f then (k,v)::r else (k,x)::putF f v r) from rfl]
  by_cases hk:k=f
  ·rw[if_pos hk]
   by_cases h:g=k
   ·have hb:(g==k)=true:=beq_iff_eq.mpr h
    simp only[List.lookup,hb,if_pos (h.trans hk)]
   ·have hb:(g==k)=false:=beq_eq_false_iff_ne.mpr h
    simp only[List.lookup,hb,if_neg (fun e:g=f=>h (e.trans hk.symm))]
  ·rw[if_neg hk]
   by_cases h:g=k
   ·have hb:(g==k)=true:=beq_iff_eq.mpr h
    simp only[List.lookup,hb,if_neg (fun e:g=f=>hk (h.symm.trans e))]
   ·have hb:(g==k)=false:=beq_eq_false_iff_ne.mpr h
    simp only[List.lookup,hb]
    exact ih
theorem kR(f:Str)(v:V):∀fs:List (Str×V),f∈(putF f v fs).map (·.1)∧∀g,g∈fs.map (·.1)→g∈(putF f v fs).map (·.1)
 |[]=>⟨by simp[putF],fun g h=>by simp at h⟩
 |(k,x)::r=>by
  obtain⟨i1,i2⟩:=kR f v r
  rw[show putF f v ((k,x)::r)=(if k=f then (k,v)::r else (k,x)::putF f v r) from rfl]
  by_cases hk:k=f
  ·rw[if_pos hk]
   subst hk
   exact⟨by simp,fun g h=>by simpa using h⟩
  ·rw[if_neg hk]
   refine⟨?_,fun g h=>?_⟩
   ·rw[List.map_cons]
    exact List.mem_cons_of_mem _ i1
   ·rw[List.map_cons] at h ⊢
    rcases List.mem_cons.mp h with e|e
    ·exact List.mem_cons.mpr (.inl e)
    ·exact List.mem_cons_of_mem _ (i2 g e)
theorem dS(f:Str)(v:V):∀fs:List (Str×V),(putF f v fs).length≤fs.length+1
 |[]=>by simp[putF]
 |(k,x)::r=>by
  have ih:=dS f v r
  rw[show putF f v ((k,x)::r)=(if k=f then (k,v)::r else (k,x)::putF f v r) from rfl]
  by_cases hk:k=f
  ·rw[if_pos hk,List.length_cons,List.length_cons];lia
  ·rw[if_neg hk,List.length_cons,List.length_cons];lia
theorem RelO.some_of{v:V}{o:Option Value}(r:RelO (some v) o):∃u,o=some u∧RelV v u:=by
 cases o with
 |none=>exact(show False from r).elim
 |some u=>exact⟨u,rfl,r⟩
theorem RelO.none_of{o:Option Value}(r:RelO none o):o=none:=by
 cases o with
 |none=>rfl
 |some u=>exact(show False from r).elim
theorem aAh{v:V}{u:Value}(r:RelV v u):PySem.W.handedIn u=true:=by
 cases v with
 |non=>cases (show u=Value.none from r);rfl
 |bl b=>cases (show u=Value.bool b from r);rfl
 |int i=>obtain⟨t,e⟩:=(show ∃t,u=Value.int i t from r);cases e;rfl
 |str x=>obtain⟨t,e⟩:=(show ∃t,u=Value.str x t from r);cases e;rfl
 |byt b=>obtain⟨t,e⟩:=(show ∃t,u=Value.bytes b t from r);cases e;rfl
 |flt b=>obtain⟨t,e⟩:=(show ∃t,u=Value.float b t from r);cases e;rfl
 |ref a=>cases (show u=Value.ref a from r);rfl
 |ty n=>cases (show u=Value.type n from r);rfl
section
variable {P:Program} {w:World} {H H':Hp} {h h':Heap} {a C dx:Addr} {fs fs':List (Str×V)}
theorem lV(hok:HOk P w H h)(e:H a=some (.ins C dx fs)):∃mA,ObjM h a dx C mA∧(∀f,RelO (fs.lookup f) (mA f))∧PySem.Within mA (fs.map (·.1))∧fs.length≤1000∧H dx=some (.own a):=by
 obtain⟨d,z,ne,ob,mA,n,r,q⟩:=(show bW P w H h a (.ins C dx fs) from hok a _ e)
 exact⟨mA,⟨ob,n,ne⟩,r,q,z,d⟩
end
structure Cls(K:PySem.W.Frag)(C:Addr):Prop where
 pg:PySem.W.plainGet K C Str.empty=true
 hd:PySem.W.hasDictIn K C=true
 po:PySem.W.plainOver K C=true
 sa:PySem.W.findIn K (.ref C) "__setattr__"=some (some (.builtin "object.__setattr__"))
theorem Cls.get{K:PySem.W.Frag}{C:Addr}(c:Cls K C)(f:Str):PySem.W.plainGet K C f=true:=c.pg
def eZ(K:PySem.W.Frag)(C:Addr)(f:Str):Prop:=PySem.W.findIn K (.ref C) f=some none
theorem eZ.taker{K:PySem.W.Frag}{C:Addr}{f:Str}(n:eZ K C f):PySem.W.takerIn K C f=some none:=by
 unfold PySem.W.takerIn
 rw[show PySem.W.findIn K (.ref C) f=some none from n]
 rfl
structure Meth(K:PySem.W.Frag)(C:Addr)(m:Str)(f:Addr):Prop where
 at_:PySem.W.findIn K (.ref C) m=some (some (.ref f))
 fn:PySem.W.isFn K (.ref f)=true
 kp:PySem.W.keepIn K (.ref f)=true
section
variable {X:Cx} {pins:List (Addr×Obj)} {σ:St} {H:Hp} {s:Shared} {a C dx:Addr} {fs:List (Str×V)} {f:Str} {v:V} {A:Around} {E:Value→Shared→Prop}
theorem xT{b:Bool}{Q:Value→Shared→Prop}(I:Inv X pins σ H s)(e:H a=some (.ins C dx fs))(c:Cls X.K C)(n:eZ X.K C f)(l:fs.lookup f=some v)(h:∀u s',Inv X pins σ H s'→RelV v u→Q u s'):wpAny (model X.prog X.w) A (getAttr (.ref a) f b) Q E s:=by
 obtain⟨mA,O,r,_,_,_⟩:=lV I.hok e
 obtain⟨u,hu,ru⟩:=RelO.some_of (v:=v) (o:=mA f) (by rw[← l];exact r f)
 exact aCD I.kIn O (c.get f) c.hd n hu (aAh ru) (h u _ (I.tok _) ru)
theorem xU{m:Str}{g:Addr}{pl:Sem Bool}{Q:Value×List Value→Shared→Prop}(I:Inv X pins σ H s)(e:H a=some (.ins C dx fs))(c:Cls X.K C)(k:Meth X.K C m g)(l:fs.lookup m=none)(h:Q (.ref g,[.ref a]) s):wpAny (model X.prog X.w) A (getMethod (.ref a) m pl) Q E s:=by
 obtain⟨mA,O,r,_,_,_⟩:=lV I.hok e
 have hn:mA m=none:=RelO.none_of (by rw[← l];exact r m)
 exact aBv I.kIn O (c.get m) k.at_ k.fn hn h
theorem xV{y:V}{u:Value}{Q:Unit→Shared→Prop}(I:Inv X pins σ H s)(e:H a=some (.ins C dx fs))(c:Cls X.K C)(n:eZ X.K C f)(hl:fs.length<1000)(ry:RelV y u)(h:∀s',Inv X pins σ (upd H a (.ins C dx (putF f y fs))) s'→Q () s'):wpAny (model X.prog X.w) A (setAttr (.ref a) f u) Q E s:=by
 obtain⟨mA,O,r,wi,_,ho⟩:=lV I.hok e
 have hz:(fs.map (·.1)).length≤sizeLine:=by rw[List.length_map,sizeLine_eq];lia
 refine aCE I.kIn O c.sa c.po n.taker c.hd wi hz fun h' O' sb=>h _ ?_
 have hd:∃o,h'.get? dx=some o:=let ⟨o,_,_,e',_⟩:=O'.ns;⟨o,e'⟩
 refine I.write (x:=a) (e:=dx) (by rw[e];exact True.intro) (.inr ho) (fun b q hb z=>(sb.2 b hb).trans z) hd ?_
 refine⟨by rw[aF O.ne];exact ho,?_,O.ne,O'.obj,_,O'.ns,fun g=>?_,fun g hg=>?_⟩
 ·have:=dS f y fs;lia
 ·show RelO ((putF f y fs).lookup g) (if g=f then some u else mA g)
  rw[bY]
  by_cases q:g=f
  ·rw[if_pos q,if_pos q];exact ry
  ·rw[if_neg q,if_neg q];exact r g
 ·by_cases q:g=f
  ·rw[q];exact(kR f y fs).1
  ·refine(kR f y fs).2 g (wi g fun z=>hg ?_)
   show (if g=f then some u else mA g)=none
   rw[if_neg q];exact z
theorem Inv.made(I:Inv X pins σ H s):Inv X pins σ (upd (upd H s.heap.objs.size (.own (s.heap.objs.size+1))) (s.heap.objs.size+1) (.ins C s.heap.objs.size []))
  { s with heap:=(s.heap.push PySem.W.emptyDict).push (PySem.W.instObj C s.heap.objs.size) }:=by
 have e1:(s.heap.push PySem.W.emptyDict).get? s.heap.objs.size=some PySem.W.emptyDict:=Heap.get?_push_size s.heap rfl
 have e2:((s.heap.push PySem.W.emptyDict).push (PySem.W.instObj C s.heap.objs.size)).get? (s.heap.objs.size+1)=some (PySem.W.instObj C s.heap.objs.size):=by
  have:=Heap.get?_push_size (s.heap.push PySem.W.emptyDict) (o:=PySem.W.instObj C s.heap.objs.size) rfl
  rwa [Heap.size_push] at this
 have e3:(s.heap.push PySem.W.emptyDict).Ns s.heap.objs.size (fun _=>none):=⟨PySem.W.emptyDict,#[],_,e1,rfl,(fun e he=>absurd he (by simp)),fun _=>rfl⟩
 have I1:=I.laid (a:=s.heap.objs.size) (o:=.own (s.heap.objs.size+1)) (h':=s.heap.push PySem.W.emptyDict) (t':=s.toks) (fun b u q=>Heap.get?_push_of_some _ q) (Nat.le_refl _) ⟨_,e1⟩
 refine I1.laid (a:=s.heap.objs.size+1) (o:=.ins C s.heap.objs.size []) (t':=s.toks) (fun b u q=>Heap.get?_push_of_some _ q) (Nat.le_of_eq (Heap.size_push _ _)) ?_
 have ne:s.heap.objs.size≠s.heap.objs.size+1:=Nat.ne_of_lt (Nat.lt_succ_self _)
 refine⟨by rw[aF ne,aB],Nat.zero_le _,ne,e2,fun _=>none,(Heap.Ns1.of_empty e3).at fun o q=>Heap.get?_push_of_some _ q,fun _=>True.intro,fun y hy=>absurd rfl hy⟩
theorem aCF{prog:Program}{w:World}{env:Env}{e:Expr}{f:Str}{pos:Pos}{s:Shared}{Q:Value→Shared→Prop}(hb:attributeBase e f env (eval e env)=eval e env)(h:wpAny (model prog w) A (eval e env) (fun o s₁=>wpAny (model prog w) A (getAttr o f true) Q E s₁) E s):wpAny (model prog w) A (eval (.Attribute e f pos) env) Q E s:=
 Attribute_any_ h (by rw[arm_eval_Attribute,hb])
end
def tFld(K:PySem.W.Frag)(ta:TE)(f:Str):TE:=fun σ H Q=>ta σ H fun x H1=>∃a C dx fs v,x=.ref a∧H1 a=some (.ins C dx fs)∧Cls K C∧eZ K C f∧fs.lookup f=some v∧Q v H1
def sFld(K:PySem.W.Frag)(ta tv:TE)(f:Str):TS:=fun D σ H=>tv σ H fun y H1=>ta σ H1 fun x H2=>∃a C dx fs,x=.ref a∧H2 a=some (.ins C dx fs)∧Cls K C∧eZ K C f∧fs.length<1000∧
 D.nx σ (upd H2 a (.ins C dx (putF f y fs)))
section
variable {X:Cx} {o e value:Expr} {f:Str} {pos pos' tpos:Pos} {ta tv:TE}
theorem oA(he:PE X e ta)(hb:attributeBase e f X.env (eval e X.env)=eval e X.env):PE X (.Attribute e f pos) (tFld X.K ta f):=by
 intro pins s σ H Q I h
 refine aCF hb (thn (he pins s σ H _ I h) fun u s1 ⟨x,H1,I1,rx,a,C,dx,fs,v,ex,ea,c,n,l,q⟩=>?_)
 subst ex
 obtain rfl:u=Value.ref a:=rx
 exact xT I1 ea c n l fun u' s2 I2 ru=>⟨v,H1,I2,ru,q⟩
theorem oB(ha:PE X o ta)(hv:PE X value tv)(hs:swapsWith value (some (.Attribute o f pos')) pos.line X.env=pure false):PS X (.Assign [.Attribute o f pos'] value pos) (sFld X.K ta tv f):=by
 intro pins s σ H D I h
 refine plainObj_wpAny_Assign_Attribute (thn (hv pins s σ H _ I h) fun u s1 ⟨y,H1,I1,ry,q⟩=>thn (ha pins s1 σ H1 _ I1 q) fun ov s2 ⟨x,H2,I2,rx,a,C,dx,fs,ex,ea,c,n,l,q2⟩=>?_) hs
 subst ex
 obtain rfl:ov=Value.ref a:=rx
 exact xV I2 ea c n l ry fun s3 I3=>⟨σ,_,I3,q2⟩
end
section
variable {X:Cx} {pins:List (Addr×Obj)} {σ:St} {H:Hp} {s:Shared} {A:Around} {E:Value→Shared→Prop} {Q:Value→Shared→Prop} {c:Value} {b:Bool}
inductive TyOf (K:PySem.W.Frag) (H:Hp):V→Value→Prop where
 |non:TyOf K H .non (.type "NoneType")
 |bl (x:Bool):TyOf K H (.bl x) (.type "bool")
 |int (i:Int):TyOf K H (.int i) (.type "int")
 |str (x:Str):TyOf K H (.str x) (.type "str")
 |flt (x:UInt64):TyOf K H (.flt x) (.type "float")
 |lst {a:Addr} {xs:List V} (e:H a=some (.lst xs)):TyOf K H (.ref a) (.type "list")
 |frz {a:Addr} {o:Obj} {xs:List V} (e:H a=some (.frz o (.lst xs))):TyOf K H (.ref a) (.type "list")
 |tup {a:Addr} {xs:List V} (e:H a=some (.tup xs)):TyOf K H (.ref a) (.type "tuple")
 |dK {a:Addr} {kvs:List (Key×V)} (e:H a=some (.dK kvs)):TyOf K H (.ref a) (.type "dict")
 |dT {a:Addr} {kvs:List (List Key×V)} (e:H a=some (.dT kvs)):TyOf K H (.ref a) (.type "dict")
 |ins {a C dx:Addr} {fs:List (Str×V)} (e:H a=some (.ins C dx fs)) (cl:Cls K C) (ha:PySem.W.findIn K (.ref C) "__class__"=some (some (.builtin "object.__class__")))
   (hn:PySem.W.specialIn K (.builtin "object.__class__") "__get__"=some (some (.builtin "getset_descriptor.__get__"))) (htk:PySem.W.takesIn K (.builtin "object.__class__")=some true)
   (hm:PySem.W.mroIn K C (.type "object")=some true):TyOf K H (.ref a) (.ref C)
theorem aAi{x:V}{u t:Value}(I:Inv X pins σ H s)(rx:RelV x u)(ty:TyOf X.K H x t)(e:PySem.W.kitOne X.K t c=some b)(h:∀tk,Q (.bool b) { s with toks:=tk }):
  wpAny (model X.prog X.w) A (call (.builtin "isinstance") [u,c]) Q E s:=by
 cases ty with
 |non=>cases (show u=Value.none from rx);exact PySem.W.kia_one PySem.W.kitx_none I.kIn True.intro e (fun z=>nomatch z) h
 |bl y=>cases (show u=Value.bool y from rx);exact PySem.W.kia_one PySem.W.kitx_bool I.kIn True.intro e (fun z=>nomatch z) h
 |int i=>obtain⟨t,q⟩:=(show ∃t,u=Value.int i t from rx);cases q;exact PySem.W.kia_one PySem.W.kitx_int I.kIn True.intro e (fun z=>nomatch z) h
 |str y=>obtain⟨t,q⟩:=(show ∃t,u=Value.str y t from rx);cases q;exact PySem.W.kia_one PySem.W.kitx_str I.kIn True.intro e (fun z=>nomatch z) h
 |flt y=>obtain⟨t,q⟩:=(show ∃t,u=Value.float y t from rx);cases q;exact PySem.W.kia_one PySem.W.kitx_float I.kIn True.intro e (fun z=>nomatch z) h
 |@lst a xs ea=>
  cases (show u=Value.ref a from rx)
  obtain⟨_,_,n,_,h1⟩:=(show bW X.prog X.w H s.heap a (.lst xs) from I.hok a _ ea)
  exact PySem.W.kia_one PySem.W.kitx_list I.kIn ⟨_,h1,rfl⟩ e (fun z=>nomatch z) h
 |@frz a ob xs ea=>
  cases (show u=Value.ref a from rx)
  obtain⟨_,_,_,n,_,h1⟩:=(show bW X.prog X.w H s.heap a (.frz ob (.lst xs)) from I.hok a _ ea)
  exact PySem.W.kia_one PySem.W.kitx_list I.kIn ⟨_,h1,rfl⟩ e (fun z=>nomatch z) h
 |@tup a xs ea=>
  cases (show u=Value.ref a from rx)
  obtain⟨_,_,_,p⟩:=(show bW X.prog X.w H s.heap a (.tup xs) from I.hok a _ ea)
  obtain⟨o,h1,h2,_⟩:=p
  exact PySem.W.kia_one PySem.W.kitx_tuple I.kIn ⟨o,h1,h2⟩ e (fun z=>nomatch z) h
 |@dK a kvs ea=>
  cases (show u=Value.ref a from rx)
  obtain⟨_,_,vs,_,p⟩:=(show bW X.prog X.w H s.heap a (.dK kvs) from I.hok a _ ea)
  obtain⟨o,es,ep,h1,h2,_⟩:=p
  exact PySem.W.kia_one PySem.W.kitx_dict I.kIn ⟨o,h1,h2.1⟩ e (fun z=>nomatch z) h
 |@dT a kvs ea=>
  cases (show u=Value.ref a from rx)
  obtain⟨_,_,xs,_,o,es,ep,h1,h2,_⟩:=(show bW X.prog X.w H s.heap a (.dT kvs) from I.hok a _ ea)
  exact PySem.W.kia_one PySem.W.kitx_dict I.kIn ⟨o,h1,h2.1⟩ e (fun z=>nomatch z) h
 |@ins a C dx fs ea cl ha hn htk hm=>
  cases (show u=Value.ref a from rx)
  obtain⟨mA,O,_⟩:=lV I.hok ea
  obtain⟨od,J,_⟩:=O.look
  exact PySem.W.kia_one (PySem.W.kitx_own (cl.get _) cl.hd ha hn htk hm) I.kIn J e (fun z=>nomatch z) h
end
end L2
namespace L2
open PySem PySem.Spec PyProof.Rows
structure Room(k:Nat)(A:Around):Prop where
 hd:A.handled=none
 dp:A.depth+3*k+5<recursionLimit
 un:A.units+16*k+200<cLine
 gd:A.guards=some []
theorem Room.mono{j k:Nat}{A:Around}(r:Room k A)(h:j≤k):Room j A:=⟨r.hd,by have:=r.dp;lia,by have:=r.un;lia,r.gd⟩
theorem Room.deeper{k:Nat}{A:Around}(r:Room (k+1) A)(env:Env):Room k (A.deeper env):=
 ⟨r.hd,by have:=r.dp;show A.depth+1+3*k+5<_;lia,by have:=r.un;show A.units+3+16*k+200<_;lia,r.gd⟩
theorem xW{A:Around}{C:Addr}{us:List Value}{kw:List (Str×Value)}:(A.under (.builtin "type.__call__" ⟨.ref C::us,kw⟩)).depth=A.depth+1:=by
 first|rfl|simp[Around.under,Code.weight,Code.isCreation,Code.isGuard,Code.isCaller,Code.frames,Code.isFrame,guardIds]
theorem xX{A:Around}{C:Addr}{us:List Value}{kw:List (Str×Value)}:(A.under (.builtin "type.__call__" ⟨.ref C::us,kw⟩)).units=A.units+1:=by
 first|rfl|simp[Around.under,Code.cUnits,Code.frames,Code.isFrame]
theorem Room.make{k:Nat}{A:Around}(r:Room (k+1) A)(C:Addr)(us:List Value)(kw:List (Str×Value)):Room k (A.under (.builtin "type.__call__" ⟨.ref C::us,kw⟩)):=
 ⟨r.hd,by have:=r.dp;rw[xW];lia,by have:=r.un;rw[xX];lia,r.gd⟩
theorem Room.depth{k:Nat}{A:Around}(r:Room k A):A.depth<recursionLimit:=by have:=r.dp;lia
theorem Room.u{k n:Nat}{A:Around}(r:Room k A)(h:n≤200:=by decide):A.units+n<cLine:=by have:=r.un;lia
def tNil:TA:=fun _ H Q=>Q [] H
def bK(ta:TE)(tr:TA):TA:=fun σ H Q=>ta σ H fun x H1=>tr σ H1 fun xs H2=>Q (x::xs) H2
section
variable {X:Cx} {e:Expr} {es:List Expr} {te:TE} {t:TA} {pos:Pos}
theorem aD:PA X [] tNil:=fun _ _ _ _ H Q I h=>Calls.spliced_nil ⟨[],H,I,.nil,h⟩
theorem aA(ha:PE X e te)(hr:PA X es t)(hs:starEach (e::es) X.env=(false,eval e X.env)::starEach es X.env:=by rfl):PA X (e::es) (bK te t):=by
 intro pos pins s σ H Q I h
 rw[hs]
 show wpAny _ _ (spliced ((false,eval e X.env)::backTo pos (starEach es X.env))) _ _ s
 refine Calls.spliced_cons (thn (ha pins s σ H _ I h) fun u s1 ⟨x,H1,I1,r1,q1⟩=>?_)
 exact thn (hr pos pins s1 σ H1 _ I1 q1) fun us s2 ⟨xs,H2,I2,r2,q2⟩=>⟨x::xs,H2,I2,.cons r1 r2,q2⟩
def tTup(t:TA):TE:=fun σ H Q=>t σ H fun xs H1=>xs.length≤sizeLine∧∀p,H1 p=none→Q (.ref p) (upd H1 p (.tup xs))
def tLst(t:TA):TE:=fun σ H Q=>t σ H fun xs H1=>xs.length≤sizeLine∧∀p,H1 p=none→Q (.ref p) (upd H1 p (.lst xs))
theorem bT{x1}(h:PA X es t):PE X (.Tuple es x1 pos) (tTup t):=by
 intro pins s σ H Q I hq
 refine wpAny_Tuple_spliced (thn (h pos pins s σ H _ I hq) fun us s1 ⟨xs,H1,I1,r,z,q⟩=>⟨by rw[← r.length];exact z,?_⟩)
 have hf:H1 s1.heap.objs.size=none:=I1.hok.fresh (Nat.le_refl _)
 refine⟨.ref s1.heap.objs.size,upd H1 s1.heap.objs.size (.tup xs),I1.laid (t':=s1.toks) (fun b u e=>Heap.get?_push_of_some _ e) (Nat.le_refl _) ?_,rfl,q _ hf⟩
 exact⟨z,us,r,⟨_,Heap.get?_push_size _ rfl,rfl,_,rfl,rfl⟩⟩
theorem bU(h:PA X es t):PE X (.List es pos) (tLst t):=by
 intro pins s σ H Q I hq
 refine wpAny_List_spliced (thn (h pos pins s σ H _ I hq) fun us s1 ⟨xs,H1,I1,r,z,q⟩=>⟨by rw[← r.length];exact z,?_⟩)
 have hf:H1 s1.heap.objs.size=none:=I1.hok.fresh (Nat.le_refl _)
 refine⟨.ref s1.heap.objs.size,upd H1 s1.heap.objs.size (.lst xs),I1.laid (t':=s1.toks) (fun b u e=>Heap.get?_push_of_some _ e) (Nat.le_refl _) ?_,rfl,q _ hf⟩
 exact⟨z,us,0,r,Heap.get?_push_size _ rfl⟩
end
abbrev Sp:=List V→Hp→VK→XK→Prop
abbrev CXT:=List Env→Hp→Shared→XK→Value→Shared→Prop
structure Env0(P:Program)(w:World)(K:PySem.W.Frag)(mg:Str→Option Value)(base:Heap)(A:Around)(outer:List Env)(s:Shared)(H:Hp):Prop where
 frames:A.frames=some outer
 mod:Mod K mg base
 bs:∀b o,base.get? b=some o→s.heap.get? b=some o∧H b=none
 bsz:base.objs.size≤s.heap.objs.size
 funs:s.heap.FunFrames base outer
 frf:∀b∈frs outer,H b=none
 hok:HOk P w H s.heap
 bare:AllBare s.gens
def CE(outer:List Env)(P:Program)(w:World)(H:Hp)(s:Shared)(Q:VK)(u:Value)(s':Shared):Prop:=
 ∃v H',s'.os=s.os∧AllBare s'.gens∧Un (frs outer) [] H H' s.heap s'.heap∧HOk P w H' s'.heap∧RelV v u∧Q v H'
def CR(CX:CXT)(outer:List Env)(P:Program)(w:World)(H:Hp)(s:Shared)(Q:VK)(E:XK)(r:Result)(s':Shared):Prop:=
 match r with
 |.ok (.ret u)=>CE outer P w H s Q u s'
 |.ok _=>False
 |.error e=>CX outer H s E e s'
structure FnOk(P:Program)(w:World)(K:PySem.W.Frag)(mg:Str→Option Value)(base:Heap)(CX:CXT)(k:Nat)(f:Addr)(fd:FuncData)(ps:List Str)(sp:Sp):Prop where
 len:∀vs H Q E,sp vs H Q E→vs.length=ps.length
 run:∀ (A:Around) (outer:List Env) (s:Shared) (H:Hp) (args:Args) (us:List Value) (vs:List V) (Q:VK) (E:XK),Room k A→Env0 P w K mg base A outer s H→BindsTo s fd args (ps.zip us)→Vals vs us→sp vs H Q E→
  codeAny (model P w) A (.call (.ref f) args) (CR CX outer P w H s Q E) s
theorem Env0.make{P:Program}{w:World}{K:PySem.W.Frag}{mg:Str→Option Value}{base:Heap}{A:Around}{outer:List Env}{s:Shared}{H:Hp}(e:Env0 P w K mg base A outer s H)(C:Addr)(us:List Value)(kw:List (Str×Value)):
  Env0 P w K mg base (A.under (.builtin "type.__call__" ⟨.ref C::us,kw⟩)) outer s H:=⟨by first|exact e.frames|(simpa [Around.under,Code.envs,Code.isFrame,pushEnvs] using e.frames),e.mod,e.bs,e.bsz,e.funs,e.frf,e.hok,e.bare⟩
section
variable {X:Cx} {pins:List (Addr×Obj)} {σ:St} {H:Hp} {s s':Shared}
theorem Inv.env0(I:Inv X pins σ H s):Env0 X.prog X.w X.K X.mg X.base X.A X.stack s H:=
 ⟨I.ok.frames,I.ok.mod,I.bs,Nat.le_trans I.ok.bsz I.sz,I.stack,I.stkFree,I.hok,I.bare⟩
theorem Inv.after{Q:VK}{u:Value}(I:Inv X pins σ H s)(h:CE X.stack X.prog X.w H s Q u s'):EP X pins σ Q u s':=by
 obtain⟨v,H',os,bare,un,hok,r,q⟩:=h
 obtain⟨hh,g,d,t,os'⟩:=s'
 obtain rfl:os'=s.os:=os
 exact⟨v,H',I.call (h':=hh) (g':=g) (d':=d) (t':=t) (ch:=[]) un hok bare (fun b z=>absurd z (by simp)),r,q⟩
end
def lW(sp:Sp)(dvs:List V)(E:XK)(t:TA):TE:=fun σ H Q=>t σ H fun vs H1=>sp (vs++dvs) H1 Q E
def aEA(C:Addr)(m:Str)(sp:Sp)(dvs:List V)(E:XK)(ta:TE)(t:TA):TE:=fun σ H Q=>ta σ H fun x H1=>∃a dx fs,x=.ref a∧H1 a=some (.ins C dx fs)∧fs.lookup m=none∧
 t σ H1 fun vs H2=>sp (x::(vs++dvs)) H2 Q E
def aEB(C:Addr)(sp:Sp)(dvs:List V)(E:XK)(t:TA):TE:=fun σ H Q=>t σ H fun vs H1=>∀x dx,H1 x=none→H1 dx=none→dx≠x→
 sp (.ref x::(vs++dvs)) (upd (upd H1 dx (.own x)) x (.ins C dx [])) (fun v H2=>v=.non∧Q (.ref x) H2) E
def fY(K:PySem.W.Frag)(fd:FuncData)(ps:List Str)(ds:List Value):Prop:=
 ∀ (s:Shared) (us:List Value),K.In s.heap→(us++ds).length=ps.length→BindsTo s fd ⟨us,[]⟩ (ps.zip (us++ds))
theorem fY.all{K:PySem.W.Frag}{fd:FuncData}{ps:List Str}(h:∀us:List Value,us.length=ps.length→bindArgs fd ⟨us,[]⟩=pure (ps.zip us)):fY K fd ps []:=fun s us _ hl=>by
 rw[List.append_nil] at hl ⊢
 exact .of_eq (h us hl)
def iJ(CX:CXT)(X:Cx)(E:XK):Prop:=∀ (pins:List (Addr×Obj)) (σ:St) (H:Hp) (s:Shared) (e:Value) (s':Shared),Inv X pins σ H s→CX X.stack H s E e s'→X.xe e s'
section
variable {X:Cx} {CX:CXT} {k:Nat} {f C:Addr} {fd:FuncData} {ps:List Str} {sp:Sp} {dvs:List V} {ds:List Value} {E:XK} {x m:Str} {p pos apos:Pos} {e o:Expr} {es:List Expr} {ta:TE} {t:TA}
theorem aAj{pins:List (Addr×Obj)}{σ:St}{H:Hp}{s:Shared}{Q:VK}{us:List Value}{vs:List V}(F:FnOk X.prog X.w X.K X.mg X.base CX k f fd ps sp)(hr:Room k X.A)(hb:fY X.K fd ps ds)(hd:Vals dvs ds)(hx:iJ CX X E)(I:Inv X pins σ H s)(r:Vals vs us)(h:sp (vs++dvs) H Q E):wpAny (model X.prog X.w) X.A (call (.ref f) us) (EP X pins σ Q) X.xe s:=by
 have r2:Vals (vs++dvs) (us++ds):=r.append hd
 have hl:(us++ds).length=ps.length:=by rw[← r2.length];exact F.len _ _ _ _ h
 refine wpAny_call (codeAny_mono (F.run X.A X.stack s H ⟨us,[]⟩ (us++ds) (vs++dvs) Q E hr I.env0 (hb s us I.kIn hl) r2 h) fun r s' hq=>?_)
 cases r with
 |error e=>exact hx pins σ H s e s' I hq
 |ok fl=>
  cases fl with
  |ret u=>exact I.after hq
  |next=>exact False.elim hq
  |brk=>exact False.elim hq
  |cont=>exact False.elim hq
theorem aCG(F:FnOk X.prog X.w X.K X.mg X.base CX k f fd ps sp)(hr:Room k X.A)(hg:Gl X x)(hm:X.mg x=some (.ref f))(hk:PySem.W.keepIn X.K (.ref f)=true)(hb:fY X.K fd ps ds)(hd:Vals dvs ds)(hx:iJ CX X E)(ha:PA X (e::es) t)(hdb:(x==("__debug__":Str))=false:=by decide)(he:starEach (e::es) X.env=(false,eval e X.env)::starEach es X.env:=by rfl)(hpl:(backTo pos (starEach es X.env)).any (·.1)=false:=by rfl):
  PE X (.Call (.Name x p) (e::es) [] pos) (lW sp dvs E t):=by
 intro pins s σ H Q I h
 refine wpAny_Call_Name_kw (pG I hg hm ?_ hdb)
 refine PySem.W.callWith_K (h₀:=X.base) I.ok.mod.kin hk (thn (ha pos pins s σ H _ I h) fun us s1 ⟨vs,H1,I1,r,q⟩=>⟨I1.kIn,?_⟩) he hpl
 exact aAj F hr hb hd hx I1 r q
theorem lX{pl:Sem Bool}(he:PE X o ta)(c:Cls X.K C)(hm:Meth X.K C m f)(F:FnOk X.prog X.w X.K X.mg X.base CX k f fd ps sp)(hr:Room k X.A)(hb:fY X.K fd ps ds)(hd:Vals dvs ds)(hx:iJ CX X E)(ha:PA X (e::es) t)(hst:starEach (e::es) X.env=(false,eval e X.env)::starEach es X.env:=by rfl)(hpl:(backTo pos (starEach es X.env)).any (·.1)=false:=by rfl)(ht:eval (.Call (.Attribute o m apos) (e::es) [] pos) X.env=(do
   let ov ← eval o X.env
   standAt apos.atName
   let (f,first) ← holding [ov] (getMethod ov m pl)
   callWith pos f first (backTo pos (starEach (e::es) X.env)) (backToKw pos (keywordEach [] X.env))):=by rfl):
  PE X (.Call (.Attribute o m apos) (e::es) [] pos) (aEA C m sp dvs E ta t):=by
 intro pins s σ H Q I h
 refine PySem.W.methodCall_KW (pl:=pl) (thn (he pins s σ H _ I h) fun u s1 ⟨x,H1,I1,rx,a,dx,fs,ex,ea,l,q⟩=>?_) ht
 subst ex
 obtain rfl:u=Value.ref a:=rx
 refine xU I1 ea c hm l ?_
 refine PySem.W.callWith_K (first:=[.ref a]) (h₀:=X.base) I.ok.mod.kin hm.kp (thn (ha pos pins s1 σ H1 _ I1 q) fun us s2 ⟨vs,H2,I2,r,q2⟩=>⟨I2.kIn,?_⟩) hst hpl
 exact aAj (us:=.ref a::us) (vs:=.ref a::vs) F hr hb hd hx I2 (.cons rfl r) q2
structure Mk(K:PySem.W.Frag)(C f:Addr):Prop where
 makes:PySem.W.makesIn K C=true
 init:PySem.W.findIn K (.ref C) "__init__"=some (some (.ref f))
 fn:PySem.W.isFn K (.ref f)=true
 kp:PySem.W.keepIn K (.ref C)=true
theorem aBx{pins:List (Addr×Obj)}{σ:St}{H:Hp}{s:Shared}{Q:VK}{us:List Value}{vs:List V}(M:Mk X.K C f)(F:FnOk X.prog X.w X.K X.mg X.base CX k f fd ps sp)(hr:Room (k+1) X.A)(hb:fY X.K fd ps ds)(hd:Vals dvs ds)(hx:iJ CX X E)(I:Inv X pins σ H s)(r:Vals vs us)(h:∀x dx,H x=none→H dx=none→dx≠x→sp (.ref x::(vs++dvs)) (upd (upd H dx (.own x)) x (.ins C dx [])) (fun v H2=>v=.non∧Q (.ref x) H2) E):
  wpAny (model X.prog X.w) X.A (call (.ref C) us) (EP X pins σ Q) X.xe s:=by
 have hq:=h (s.heap.objs.size+1) s.heap.objs.size (I.hok.fresh (Nat.le_succ _)) (I.hok.fresh (Nat.le_refl _)) (Nat.ne_of_lt (Nat.lt_succ_self _))
 have I2:=Inv.made (C:=C) I
 have r2:Vals (V.ref (s.heap.objs.size+1)::(vs++dvs)) (Value.ref (s.heap.objs.size+1)::(us++ds)):=.cons rfl (r.append hd)
 have hl:(Value.ref (s.heap.objs.size+1)::us++ds).length=ps.length:=by
  have e:=r2.length
  rw[F.len _ _ _ _ hq] at e
  exact e.symm
 refine wpAny_call (aBw (f:=f) I.kIn M.makes M.init (beq_iff_eq.mp M.fn) (codeAny_mono (F.run _ X.stack _ _ ⟨Value.ref (s.heap.objs.size+1)::us,[]⟩ (Value.ref (s.heap.objs.size+1)::(us++ds)) _ _ E (hr.make C us [])
  (I2.env0.make C us []) (hb _ (Value.ref (s.heap.objs.size+1)::us) I2.kIn hl) r2 hq) fun r s' hq'=>?_))
 cases r with
 |error e=>exact hx pins σ _ _ e s' I2 hq'
 |ok fl=>
  cases fl with
  |ret u=>
   obtain⟨v,H',I3,rv,ev,q3⟩:=I2.after hq'
   subst ev
   exact⟨rv,⟨V.ref (s.heap.objs.size+1),H',I3,rfl,q3⟩⟩
  |next=>exact False.elim hq'
  |brk=>exact False.elim hq'
  |cont=>exact False.elim hq'
theorem vZ(M:Mk X.K C f)(F:FnOk X.prog X.w X.K X.mg X.base CX k f fd ps sp)(hr:Room (k+1) X.A)(hg:Gl X x)(hm:X.mg x=some (.ref C))(hb:fY X.K fd ps ds)(hd:Vals dvs ds)(hx:iJ CX X E)(ha:PA X (e::es) t)(hdb:(x==("__debug__":Str))=false:=by decide)(he:starEach (e::es) X.env=(false,eval e X.env)::starEach es X.env:=by rfl)(hpl:(backTo pos (starEach es X.env)).any (·.1)=false:=by rfl):
  PE X (.Call (.Name x p) (e::es) [] pos) (aEB C sp dvs E t):=by
 intro pins s σ H Q I h
 refine wpAny_Call_Name_kw (pG I hg hm ?_ hdb)
 refine PySem.W.callWith_K (h₀:=X.base) I.ok.mod.kin M.kp (thn (ha pos pins s σ H _ I h) fun us s1 ⟨vs,H1,I1,r,q⟩=>⟨I1.kIn,?_⟩) he hpl
 exact aBx M F hr hb hd hx I1 r q
end
def PK(X:Cx)(kws:List Keyword)(t:TA):Prop:=
 ∀ (pos:Pos) (pins:List (Addr×Obj)) (s:Shared) (σ:St) (H:Hp) (Q:List V→Hp→Prop),Inv X pins σ H s→t σ H Q→wpAny (model X.prog X.w) X.A (evalAll ((backToKw pos (keywordEach kws X.env)).map (·.2))) (AP X pins σ Q) X.xe s
section
variable {X:Cx} {CX:CXT} {k:Nat} {f C:Addr} {fd:FuncData} {ps ks:List Str} {sp:Sp} {E:XK} {x m:Str} {p pos apos kpos:Pos} {e o:Expr} {es:List Expr} {kws:List Keyword} {te ta:TE} {t tk:TA} {nm:Option Str}
theorem aDT:PK X [] tNil:=fun _ _ _ _ H Q I h=>wpAny_evalAll_nil ⟨[],H,I,.nil,h⟩
theorem aCH(ha:PE X e te)(hr:PK X kws t):PK X (⟨nm,e,kpos⟩::kws) (bK te t):=by
 intro pos pins s σ H Q I h
 show wpAny _ _ (evalAll ((do let v ← eval e X.env;standAt pos;pure v)::(backToKw pos (keywordEach kws X.env)).map (·.2))) _ _ s
 refine wpAny_evalAll_cons (wpAny_bind (thn (ha pins s σ H _ I h) fun u s1 ⟨x,H1,I1,r1,q1⟩=>wpAny_bind (wpAny_standAt (wpAny_pure ?_))))
 exact thn (hr pos pins s1 σ H1 _ I1 q1) fun us s2 ⟨xs,H2,I2,r2,q2⟩=>⟨x::xs,H2,I2,.cons r1 r2,q2⟩
variable {g:List Value→List Value→List Value} {gV:List V→List V→List V}
end
structure aZ(N P:List Str)(sc:Scope):Prop where
 kind:sc.kind=.function
 co:sc.isCoroutine=false
 gen:sc.isGenerator=false
 nd:N.Nodup
 pre:N.take P.length=P
 par:∀x∈P,sc.names.lookup x=some .local∨sc.names.lookup x=some .cell
 nofree:∀y∈sc.names,y.2≠.free
theorem qM{kindOf:Str→Option NameKind}{x:Str}:∀ {binds:List (Str×Value)} {m:Str→Option Value},(∀v,(x,v)∉binds)→bindL kindOf binds m x=m x
 |[],_,_=>rfl
 |(n,v)::r,m,h=>by
  unfold bindL
  rw[qM fun w hw=>h w (List.mem_cons_of_mem _ hw)]
  split
  ·have:x≠n:=by rintro rfl;exact h v List.mem_cons_self
   simp[this]
  ·rfl
theorem qN{kindOf:Str→Option NameKind}{x:Str}:∀ {binds:List (Str×Value)} {m:Str→Option Value},(∀v,(x,v)∉binds)→bindC kindOf binds m x=m x
 |[],_,_=>rfl
 |(n,v)::r,m,h=>by
  unfold bindC
  rw[qN fun w hw=>h w (List.mem_cons_of_mem _ hw)]
  split
  ·rfl
  ·have:x≠n:=by rintro rfl;exact h v List.mem_cons_self
   simp[this]
theorem qO{kindOf:Str→Option NameKind}{x:Str}{v:Value}:∀ {P:List Str} {vs:List Value} {i:Nat} {m:Str→Option Value},P.Nodup→P[i]?=some x→vs[i]?=some v→kindOf x=some .local→
  bindL kindOf (P.zip vs) m x=some v
 |[],_,_,_,_,h,_,_=>by simp at h
 |_::_,[],_,_,_,_,h,_=>by simp at h
 |p::P,w::vs,0,m,nd,h1,h2,hk=>by
  simp at h1 h2;subst h1;subst h2
  show bindL kindOf ((p,w)::P.zip vs) m p=_
  unfold bindL
  rw[qM fun v hv=>(List.nodup_cons.mp nd).1 (List.of_mem_zip hv).1,if_pos hk]
  simp
 |p::P,w::vs,i+1,m,nd,h1,h2,hk=>by
  show bindL kindOf ((p,w)::P.zip vs) m x=_
  unfold bindL
  exact qO (i:=i) (List.nodup_cons.mp nd).2 (by simpa using h1) (by simpa using h2) hk
theorem qP{kindOf:Str→Option NameKind}{x:Str}{v:Value}:∀ {P:List Str} {vs:List Value} {i:Nat} {m:Str→Option Value},P.Nodup→P[i]?=some x→vs[i]?=some v→kindOf x≠some .local→
  bindC kindOf (P.zip vs) m x=some v
 |[],_,_,_,_,h,_,_=>by simp at h
 |_::_,[],_,_,_,_,h,_=>by simp at h
 |p::P,w::vs,0,m,nd,h1,h2,hk=>by
  simp at h1 h2;subst h1;subst h2
  show bindC kindOf ((p,w)::P.zip vs) m p=_
  unfold bindC
  rw[qN fun v hv=>(List.nodup_cons.mp nd).1 (List.of_mem_zip hv).1,if_neg hk]
  simp
 |p::P,w::vs,i+1,m,nd,h1,h2,hk=>by
  show bindC kindOf ((p,w)::P.zip vs) m x=_
  unfold bindC
  exact qP (i:=i) (List.nodup_cons.mp nd).2 (by simpa using h1) (by simpa using h2) hk
def start(N:List Str)(vs:List V):St:=vs.map some++List.replicate (N.length-vs.length) none
def cxOf(CX:CXT)(P:Program)(w:World)(K:PySem.W.Frag)(mg:Str→Option Value)(base:Heap)(N:List Str)(qual:Str)(scope:Scope)(f:Addr)(cd:Value)(A:Around)(outer:List Env)(s:Shared)(H:Hp)(E:XK):Cx where
 prog:=P
 w:=w
 K:=K
 mg:=mg
 base:=base
 A:=A.deeper (envOfC qual scope s.heap.objs.size f cd)
 N:=N
 s₀:=s
 H₀:=H
 env:=envOfC qual scope s.heap.objs.size f cd
 outer:=outer
 stack:=envOfC qual scope s.heap.objs.size f cd::outer
 ex:=[]
 calm:=true
 fn:=fun _=>true
 pn:=[]
 xe:=fun e s'=>wpAny (model P w) (A.deeper (envOfC qual scope s.heap.objs.size f cd)) (leaving (envOfC qual scope s.heap.objs.size f cd) e) (fun _ s''=>CX outer H s E e s'') (fun e' s''=>CX outer H s E e' s'') s'
theorem sG{sc:Scope}{n:Nat}{x:Str}(h:sc.names.lookup x=some .cell):∃c,(cellsFrom n sc.names []).lookup x=some c:=by
 have q:=PySem.W.cellsFrom_some sc.names n [] (.inl h)
 exact Option.isSome_iff_exists.mp q
theorem aAk{CX:CXT}{P:Program}{w:World}{K:PySem.W.Frag}{mg:Str→Option Value}{base:Heap}{N ps:List Str}{qual:Str}{scope:Scope}{f:Addr}{cd:Value}{A:Around}{outer:List Env}{s s1:Shared}{H:Hp}{E:XK}{us:List Value}{vs:List V}(S:aZ N ps scope)(hd:A.handled=none)(e0:Env0 P w K mg base A outer s H)(hl:vs.length=ps.length)(r:Vals vs us)(x:InCallC s s.heap.objs.size (bindL (envOfC qual scope s.heap.objs.size f cd).kindOf (ps.zip us) fun _=>none) (cellsFrom (s.heap.objs.size+1) scope.names []) (bindC (envOfC qual scope s.heap.objs.size f cd).kindOf (ps.zip us) fun _=>none) s1):
  Inv (cxOf CX P w K mg base N qual scope f cd A outer s H E) [] (start N vs) H s1:=by
 have hpl:ps.length≤N.length:=by have:=congrArg List.length S.pre;rw[List.length_take] at this;lia
 obtain⟨h1,tk,rfl,hk⟩:=x.done
 have noA:∀b:Addr,b∉(cxOf CX P w K mg base N qual scope f cd A outer s H E).ex:=fun b z=>absurd (show b∈([]:List Addr) from z) (by simp)
 refine⟨⟨e0.mod,S.kind,rfl,rfl,Nat.le_refl _,fun y z c h1 h2=>?_,fun y hy=>?_,fun y c _ h=>?_,fun _=>hd,Around.frames_deeper e0.frames,.inr ⟨rfl,rfl⟩,fun b z=>absurd z (noA b),e0.bs,e0.bsz,fun b _ _=>noA b,fun b z=>absurd z (noA b),e0.funs,e0.frf⟩,
  rfl,e0.bare,Un.kept hk,⟨_,x.toInCall.ns,fun i y v h1 h2 h3=>?_⟩,fun y c h=>⟨_,x.cell y c h⟩,e0.hok.fresh (Nat.le_refl _),fun y c h=>?_,fun p hp=>absurd (show p∈([]:List (Addr×Obj)) from hp) (by simp),e0.hok.kept hk,?_⟩
 ·exact name_of_addr x.apart (PySem.mem_of_lookup h1) (PySem.mem_of_lookup h2)
 ·have hy:scope.names.lookup y=some .cell∨scope.names.lookup y=some .free:=hy
  rcases hy with hy|hy
  ·exact sG hy
  ·exact absurd rfl (S.nofree _ (PySem.mem_of_lookup hy))
 ·exact Nat.le_of_lt (x.above y c (PySem.mem_of_lookup h))
 ·have hi:i<vs.length:=by
   unfold start at h2
   by_cases hi:i<vs.length
   ·exact hi
   ·rw[List.getElem?_append_right (by simpa using hi)] at h2
    rw[List.getElem?_replicate] at h2
    split at h2 <;> cases h2
  have ha:vs[i]?=some v:=by
   unfold start at h2
   rw[List.getElem?_append_left (by simpa using hi),List.getElem?_map] at h2
   cases e:vs[i]? with
   |none=>rw[e] at h2;cases h2
   |some a=>rw[e] at h2;cases h2;rfl
  obtain⟨u,hu,rv⟩:=r.get ha
  have hp:ps[i]?=some y:=by
   rw[← S.pre,List.getElem?_take_of_lt (by lia)];exact h1
  have ndP:ps.Nodup:=by rw[← S.pre];exact S.nd.sublist (List.take_sublist _ _)
  refine⟨u,rv,?_⟩
  rcases S.par y (List.mem_of_getElem? hp) with k|k
  ·exact .inl ⟨k,qO ndP hp hu k⟩
  ·obtain⟨c,e⟩:=sG (n:=s.heap.objs.size+1) k
   refine .inr ⟨.inl k,c,e,?_⟩
   have q:=x.cell y c e
   rw[qP ndP hp hu (by show scope.names.lookup y≠_;rw[k];decide)] at q
   exact q
 ·exact e0.hok.fresh (Nat.le_of_lt (x.above y c (PySem.mem_of_lookup h)))
 ·unfold start
  show _=N.length
  rw[List.length_append,List.length_map,List.length_replicate]
  lia
theorem aCo{CX:CXT}{P:Program}{w:World}{K:PySem.W.Frag}{mg:Str→Option Value}{base:Heap}{k:Nat}{f:Addr}{name qual:Str}{params:Arguments}{body:List Stmt}{scope:Scope}{dV kV doc pm cdv ct oc:Value}{an od:Option Addr}{osl:Array (Option Value)}{N ps:List Str}{sp:Sp}(lk:K.lookup f=some ⟨oc,od,.func (PySem.W.fnOf name qual params body scope dV kV doc pm an cdv ct),osl⟩)(hcd:PySem.W.codeIn K cdv qual=true)(S:aZ N ps scope)(len:∀vs H Q E,sp vs H Q E→vs.length=ps.length)(hbody:∀ (A:Around) (outer:List Env) (s:Shared) (H:Hp) (vs:List V) (Q:VK) (E:XK),Room k (A.deeper (envOfC qual scope s.heap.objs.size f cdv))→sp vs H Q E→
   ∃t,PSs (cxOf CX P w K mg base N qual scope f cdv A outer s H E) body t∧t { nx:=fun _ H'=>Q .non H',rt:=Q } (start N vs) H):
  FnOk P w K mg base CX (k+1) f (PySem.W.fnOf name qual params body scope dV kV doc pm an cdv ct) ps sp:=by
 refine⟨len,fun A outer s H args us vs Q E hr e0 hb r hsp=>?_⟩
 have hl:=len _ _ _ _ hsp
 have KX:K.In s.heap:=e0.mod.kin.keeps fun b o e=>(e0.bs b o e).1
 have lim:s.heap.NoLimit:=e0.mod.nolimit.keeps fun b o e=>(e0.bs b o e).1
 have hkind:∀y∈ps.zip us,scope.names.lookup y.1=some .local∨(scope.names.lookup y.1=some .cell∧((cellsFrom (s.heap.objs.size+1) scope.names []).lookup y.1).isSome=true):=fun ⟨n,v⟩ hy=>by
  rcases S.par n (List.of_mem_zip hy).1 with q|q
  ·exact .inl q
  ·exact .inr ⟨q,PySem.W.cellsFrom_some _ _ _ (.inl q)⟩
 refine codeAny_call_function hr.depth (KX _ _ lk) rfl S.co S.gen rfl (PySem.W.codeRec_of KX hcd) (hb _ _ _ _ ?_)
 refine wpAny_newFunctionEnv_cells S.kind hkind fun env he s1 x=>?_
 subst he
 refine⟨lim.keeps x.toInCall.keep,codeAny_func ?_⟩
 obtain⟨t,ht,hq⟩:=hbody A outer s H vs Q E (hr.deeper _) hsp
 have I:Inv (cxOf CX P w K mg base N qual scope f cdv A outer s H E) [] (start N vs) H s1:=aAk S hr.hd e0 hl r x
 refine wpAny_mono (ht [] s1 (start N vs) H _ I hq) (fun fl s' hs=>?_) fun e s' hs=>hs
 have fin:∀ {σ':St} {H':Hp} {v:V} {u:Value},Inv (cxOf CX P w K mg base N qual scope f cdv A outer s H E) [] σ' H' s'→RelV v u→Q v H'→CE outer P w H s Q u s':=
  fun {σ' H' v u} J rv q=>⟨v,H',J.os,J.bare,J.base,J.hok,rv,q⟩
 cases fl with
 |ret u=>
  obtain⟨v,σ',H',J,rv,q⟩:=hs
  exact fin J rv q
 |next=>
  obtain⟨σ',H',J,q⟩:=hs
  exact fin (v:=V.non) (u:=Value.none) J rfl q
 |brk=>
  obtain⟨_,_,_,q⟩:=hs
  exact False.elim q
 |cont=>
  obtain⟨_,_,_,q⟩:=hs
  exact False.elim q
end L2
namespace L2
open PySem PySem.Spec PyProof.Rows
section
variable {X:Cx} {x:Str} {p pos:Pos} {e:Expr} {es:List Expr} {t:TA} {id T:String} {r:List V→Hp→VK→Prop}
def tCB(r:List V→Hp→VK→Prop)(t:TA):TE:=fun σ H Q=>t σ H fun vs H1=>r vs H1 Q
theorem aS(hc:cW X (.builtin id) r)(hg:Gl X x)(hm:X.mg x=none)(hv:bootBuiltins x=some (.builtin id))(ha:PA X (e::es) t)(hn:x≠"__name__":=by decide)(hdb:(x==("__debug__":Str))=false:=by decide)(he:starEach (e::es) X.env=(false,eval e X.env)::starEach es X.env:=by rfl)(hpl:(backTo pos (starEach es X.env)).any (·.1)=false:=by rfl):PE X (.Call (.Name x p) (e::es) [] pos) (tCB r t):=by
 intro pins s σ H Q I h
 refine wpAny_Call_Name_kw (gY I hg hm hv ?_ hn hdb)
 exact PyProof.Rows.callWith_builtin1 (thn (ha pos pins s σ H _ I h) fun us s1 ⟨vs,H1,I1,r1,q1⟩=>hc pins s1 σ H1 vs us Q I1 r1 q1) he hpl
theorem cD(hc:cW X (.type T) r)(hg:Gl X x)(hm:X.mg x=none)(hv:bootBuiltins x=some (.type T))(ha:PA X (e::es) t)(hn:x≠"__name__":=by decide)(hdb:(x==("__debug__":Str))=false:=by decide)(he:starEach (e::es) X.env=(false,eval e X.env)::starEach es X.env:=by rfl)(hpl:(backTo pos (starEach es X.env)).any (·.1)=false:=by rfl):PE X (.Call (.Name x p) (e::es) [] pos) (tCB r t):=by
 intro pins s σ H Q I h
 refine wpAny_Call_Name_kw (gY I hg hm hv ?_ hn hdb)
 exact PyProof.Rows.callWith_type1 (thn (ha pos pins s σ H _ I h) fun us s1 ⟨vs,H1,I1,r1,q1⟩=>hc pins s1 σ H1 vs us Q I1 r1 q1) he hpl
end
end L2
namespace HT
open PySem PyProof.Rows
section
open PySem.SeqAt
open PySem.AutoSeq1 (wpAny_loadPart')
open PySem.MeetsSeq PySem.MeetsSeq2 PySem.MeetsSeq3
end
section
variable {prog:Program} {w:World} {A:Around} {E:Value→Shared→Prop} {s:Shared}
def sIx(n d:Nat):Option Int→Nat
 |none=>d
 |some v=>if v<0 then (v+(n:Int)).toNat else min v.toNat n
end
end HT
namespace L2
open PySem PySem.Spec PyProof.Rows
abbrev TO:=St→Hp→(Option Int→Hp→Prop)→Prop
def PO(X:Cx)(e:Option Expr)(t:TO):Prop:=
 ∀ (pins:List (Addr×Obj)) (s:Shared) (σ:St) (H:Hp) (Q:Option Int→Hp→Prop),Inv X pins σ H s→t σ H Q→
  wpAny (model X.prog X.w) X.A (evalPart e X.env) (fun u s'=>∃o H',Inv X pins σ H' s'∧IsPart u o∧Q o H') X.xe s
def aCI:TO:=fun _ H Q=>Q none H
def aEC(t:TE):TO:=fun σ H Q=>t σ H fun x H1=>∃i,x=.int i∧Q (some i) H1
theorem xY{ns:List Int}:∀ {us:List Value},Vals (ns.map V.int) us→IntsAre us ns:=by
 induction ns with
 |nil=>intro us r;rw[List.map_nil] at r;cases r;exact .nil
 |cons n ns ih=>
  intro us r
  rw[List.map_cons] at r
  cases r with
  |cons r1 r2=>
   obtain⟨t,e⟩:=r1
   subst e
   exact .cons n t (ih r2)
section
variable {X:Cx} {e:Expr} {te:TE} {lo hi:Option Expr} {tl th:TO} {pos p2:Pos}
theorem wA:PO X none aCI:=by
 intro pins s σ H Q I h
 rw[evalPart_none]
 exact wpAny_pure ⟨none,H,I,.none,h⟩
theorem wB(h:PE X e te):PO X (some e) (aEC te):=by
 intro pins s σ H Q I hw
 rw[evalPart_some]
 refine thn (h pins s σ H _ I hw) fun u s1 ⟨x,H1,I1,r1,q1⟩=>?_
 obtain⟨i,rfl,q⟩:=q1
 obtain⟨t,rfl⟩:=r1
 exact⟨some i,H1,I1,.int i t,q⟩
def SlR(X:Cx)(r:V→Option Int→Option Int→Hp→VK→Prop):Prop:=
 ∀ (pins:List (Addr×Obj)) (s:Shared) (σ:St) (H:Hp) (x:V) (v vl vu:Value) (lo hi:Option Int) (sl:Addr) (Q:VK),Inv X pins σ H s→RelV x v→s.heap.IsSliceOf sl vl vu .none→IsPart vl lo→IsPart vu hi→r x lo hi H Q→
  ∃T id,typeLookup (.type T) "__getitem__"=pure (some (.builtin id))∧s.TypeIs v T∧wpAny (model X.prog X.w) X.A (getItem v (.ref sl)) (EP X pins σ Q) X.xe s
def tSl(r:V→Option Int→Option Int→Hp→VK→Prop)(te:TE)(tl th:TO):TE:=fun σ H Q=>te σ H fun x H1=>tl σ H1 fun l H2=>th σ H2 fun u H3=>r x l u H3 Q
theorem sI{r:V→Option Int→Option Int→Hp→VK→Prop}(hr:SlR X r)(he:PE X e te)(hl:PO X lo tl)(hu:PO X hi th):PE X (.Subscript e (.Slice lo hi none p2) pos) (tSl r te tl th):=by
 intro pins s σ H Q I h
 refine Subscript_ (thn (he pins s σ H _ I h) fun v s1 ⟨x,H1,I1,r1,q1⟩=>?_)
 refine wpAny_Slice (thn (hl pins s1 σ H1 _ I1 q1) fun vl s2 ⟨l,H2,I2,pl,q2⟩=>thn (hu pins s2 σ H2 _ I2 q2) fun vu s3 ⟨u,H3,I3,pu,q3⟩=>?_)
 rw[evalPart_none]
 refine wpAny_pure ?_
 have I4:Inv X pins σ H3 { s3 with heap:=s3.heap.push { cls:=.type "slice",data:=.fields #[vl,vu,.none] } }:=I3.kept (t':=s3.toks) fun b ob q=>Heap.get?_push_of_some _ q
 obtain⟨T,id,hT,ht,hg⟩:=hr pins { s3 with heap:=s3.heap.push { cls:=.type "slice",data:=.fields #[vl,vu,.none] } } σ H3 x v vl vu l u s3.heap.objs.size Q I4 r1 (Heap.IsSliceOf.new ..) pl pu q3
 show wpAny (model X.prog X.w) X.A (subscriptTail e (.Slice lo hi none p2) v (.ref s3.heap.objs.size)) (EP X pins σ Q) X.xe { s3 with heap:=s3.heap.push { cls:=.type "slice",data:=.fields #[vl,vu,.none] } }
 exact tail_any (ops:=[.ref s3.heap.objs.size,v]) ht hT hg (by with_unfolding_all rfl)
def cutV(xs:List V)(lo hi:Option Int):List V:=(xs.drop (HT.sIx xs.length 0 lo)).take (HT.sIx xs.length xs.length hi-HT.sIx xs.length 0 lo)
theorem vB(xs:List V)(lo hi:Option Int):(cutV xs lo hi).length≤xs.length:=by
 unfold cutV
 rw[List.length_take,List.length_drop]
 lia
end
end L2
namespace L2
open PySem PySem.Spec PyProof.Rows
def ixN(n:Nat)(i:Int):Option Nat:=if 0≤i then (if i<n then some i.toNat else none) else if -(n:Int)≤i then some (i+n).toNat else none
def atI{α:Type}(xs:List α)(i:Int):Option α:=(ixN xs.length i).bind fun j=>xs[j]?
theorem jJ{n:Nat}{i:Int}{j:Nat}(h:ixN n i=some j):seqIndex? i n=some j∧j<n∧-(n:Int)≤i∧i<n:=by
 unfold ixN at h
 by_cases h0:0≤i
 ·rw[if_pos h0] at h
  by_cases h1:i<n
  ·rw[if_pos h1] at h
   have e:i.toNat=j:=Option.some.inj h
   exact⟨by rw[seqIndex_of h0 h1,e],by lia,by lia,h1⟩
  ·rw[if_neg h1] at h;cases h
 ·rw[if_neg h0] at h
  by_cases h1:-(n:Int)≤i
  ·rw[if_pos h1] at h
   have e:(i+n).toNat=j:=Option.some.inj h
   exact⟨by rw[seqIndex_neg (by lia) h1,e],by lia,h1,by lia⟩
  ·rw[if_neg h1] at h;cases h
theorem wC{α:Type}{xs:List α}{i:Int}{v:α}(h:atI xs i=some v):∃j,seqIndex? i xs.length=some j∧xs[j]?=some v∧j<xs.length∧-(xs.length:Int)≤i∧i<xs.length:=by
 unfold atI at h
 cases e:ixN xs.length i with
 |none=>rw[e] at h;cases h
 |some j=>
  rw[e] at h
  obtain⟨h1,h2,h3,h4⟩:=jJ e
  exact⟨j,h1,h,h2,h3,h4⟩
theorem aM{α:Type}{xs:List α}{j:Nat}{v:α}(h:xs[j]?=some v):atI xs (j:Int)=some v:=by
 have hj:j<xs.length:=(List.getElem?_eq_some_iff.mp h).1
 have e:ixN xs.length (j:Int)=some j:=by
  unfold ixN
  rw[if_pos (by lia),if_pos (by lia)];simp
 unfold atI;rw[e];exact h
theorem aBy{α:Type}(xs:List α)(v:α):atI (xs++[v]) (-1)=some v:=by
 have hl:(xs++[v]).length=xs.length+1:=by simp
 have e:ixN (xs++[v]).length (-1)=some xs.length:=by
  unfold ixN
  rw[hl,if_neg (by decide),if_pos (by lia)]
  congr 1
  lia
 unfold atI
 rw[e]
 show (xs++[v])[xs.length]?=some v
 simp
def aCJ(b:Expr):Prop:=∀o i,subscripted b false o i=operate [o,i] (getItem o i)
def IxR(X:Cx)(r:R2):Prop:=
 ∀ (value slice:Expr) (pins:List (Addr×Obj)) (s:Shared) (σ:St) (H:Hp) (x y:V) (v u:Value) (Q:VK),Inv X pins σ H s→RelV x v→RelV y u→r x y H Q→
  subscripted slice false v u=operate [v,u] (getItem v u)→wpAny (model X.prog X.w) X.A (subscriptTail value slice v u) (EP X pins σ Q) X.xe s
def MtR(X:Cx)(id:String)(r:V→List V→Hp→VK→Prop):Prop:=
 ∀ (pins:List (Addr×Obj)) (s:Shared) (σ:St) (H:Hp) (x:V) (xs:List V) (v:Value) (us:List Value) (Q:VK),Inv X pins σ H s→RelV x v→Vals xs us→r x xs H Q→
  wpAny (model X.prog X.w) X.A (call (.builtin id) (v::us)) (EP X pins σ Q) X.xe s
section
variable {X:Cx} {a b:Expr} {ta tb:TE} {pos:Pos}
theorem aR{r:R2}(hr:IxR X r)(ha:PE X a ta)(hb:PE X b tb)(hs:aCJ b):PE X (.Subscript a b pos) (tOp r ta tb):=by
 intro pins s σ H Q I h
 exact Subscript_ (binT ha hb I h fun v u s2 x y H2 I2 rx ry q=>hr a b pins s2 σ H2 x y v u Q I2 rx ry q (hs _ _))
def rIxL(K:PySem.W.Frag):R2:=fun x y H Q=>∃p xs i v,x=.ref p∧y=.int i∧SqL K H p xs∧atI xs i=some v∧Q v H
def rIxT(K:PySem.W.Frag):R2:=fun x y H Q=>∃p xs i v,x=.ref p∧y=.int i∧SqT K H p xs∧atI xs i=some v∧Q v H
theorem aP:IxR X (rIxL X.K):=by
 intro value slice pins s σ H x y v u Q I rx ry h hs
 obtain⟨p,xs,i,z,rfl,rfl,hq,he,q⟩:=h
 cases rx
 obtain⟨t,rfl⟩:=ry
 obtain⟨its,r,pl,hz⟩:=I.list hq
 obtain⟨j,h1,h2,h3,h4,h5⟩:=wC he
 obtain⟨w,ew,rw'⟩:=r.get h2
 have hl:=r.length
 have hn:=nZ
 have fin:EP X pins σ Q w s:=⟨z,H,I,rw',q⟩
 by_cases h0:0≤i
 ·have hj:i.toNat=j:=by
   rw[seqIndex_of h0 h5] at h1
   exact Option.some.inj h1
  exact item_listR pl.isList h0 (by lia) (by rw[hj];simpa using ew) fin hs
 ·have hj:(i+(its.toArray.size:Int)).toNat=j:=by
   rw[seqIndex_neg (by lia) h4] at h1
   rw[List.size_toArray,← hl]
   exact Option.some.inj h1
  exact subscriptTail_builtinR (x:=w) pl.isList.typeIs slot_list_getitem.lookup
   (wpAny_getItem_list_neg (Q:=fun r s'=>r=w∧EP X pins σ Q r s') pl.isList (by lia) (by rw[List.size_toArray] <;> lia) (by lia) (by rw[hj];simpa using ew) ⟨rfl,fin⟩) hs
theorem cG:IxR X (rIxT X.K):=by
 intro value slice pins s σ H x y v u Q I rx ry h hs
 obtain⟨p,xs,i,z,rfl,rfl,hq,he,q⟩:=h
 cases rx
 obtain⟨t,rfl⟩:=ry
 obtain⟨its,r,pl,hz⟩:=I.tuple hq
 obtain⟨j,h1,h2,h3,h4,h5⟩:=wC he
 obtain⟨w,ew,rw'⟩:=r.get h2
 have hl:=r.length
 have hn:=nZ
 have fin:EP X pins σ Q w s:=⟨z,H,I,rw',q⟩
 exact subscriptTail_builtinR (x:=w) pl.typeIs slot_tuple_getitem.lookup
  (getItem_tuple (j:=j) (Q:=fun r s'=>r=w∧EP X pins σ Q r s') pl (by lia) (by lia) (by rw[List.size_toArray,← hl];exact h1) (by simpa using ew) ⟨rfl,fin⟩) hs
theorem xZ(its:List Value)(n j:Nat)(u:Value):Obj.mapSeq (·.setIfInBounds j u) { cls:=.type "list",data:=.seq its.toArray n }={ cls:=.type "list",data:=.seq (its.set j u).toArray n }:=by
 simp[Obj.mapSeq]
theorem Inv.lst{pins:List (Addr×Obj)}{σ:St}{H:Hp}{s:Shared}{p:Addr}{xs:List V}(I:Inv X pins σ H s)(h:H p=some (.lst xs)):
  ∃ (its:List Value) (n:Nat),Vals xs its∧s.heap.get? p=some { cls:=.type "list",data:=.seq its.toArray n }∧xs.length≤sizeLine:=by
 obtain⟨z,its,n,r,e⟩:=I.hok p _ h
 exact⟨its,n,r,e,z⟩
theorem Inv.lstUpd{pins:List (Addr×Obj)}{σ:St}{H:Hp}{s:Shared}{p:Addr}{xs ys:List V}{its its':List Value}{n n':Nat}{f:Obj→Obj}(I:Inv X pins σ H s)(h:H p=some (.lst xs))(ho:s.heap.get? p=some { cls:=.type "list",data:=.seq its.toArray n })(hf:f { cls:=.type "list",data:=.seq its.toArray n }={ cls:=.type "list",data:=.seq its'.toArray n' })(r:Vals ys its')(hz:ys.length≤sizeLine)(t:Nat):
  Inv X pins σ (upd H p (.lst ys)) { s with heap:=s.heap.update p f,toks:=t }:=by
 have e:(s.heap.update p f).get? p=some { cls:=.type "list",data:=.seq its'.toArray n' }:=by
  rw[Heap.get?_update_self f ho (by rw[hf] <;> rfl),hf]
 refine I.write (x:=p) (e:=p) (by rw[h];trivial) (.inl rfl) (fun b u hb q=>(Heap.get?_update_other _ _ (Ne.symm hb)).trans q) ⟨_,e⟩ ?_
 exact⟨hz,its',n',r,e⟩
def aED:V→V→V→Hp→(Hp→Prop)→Prop:=fun o i v H Q=>∃p xs k j,o=.ref p∧i=.int k∧H p=some (.lst xs)∧ixN xs.length k=some j∧Q (upd H p (.lst (xs.set j v)))
theorem dA:PSet X aED:=by
 intro pins s σ H o i v ov iv u Q I ro ri rv h
 obtain⟨p,xs,k,j,rfl,rfl,hp,hj,q⟩:=h
 cases ro
 obtain⟨t,rfl⟩:=ri
 obtain⟨its,n,r,ho,hz⟩:=I.lst hp
 obtain⟨h1,h2,h3,h4⟩:=jJ hj
 have hl:=r.length
 have hn:=nZ
 have I':Inv X pins σ (upd H p (.lst (xs.set j v))) { s with heap:=s.heap.update p (Obj.mapSeq (·.setIfInBounds j u)) }:=
  I.lstUpd hp ho (xZ its n j u) (r.set rv j) (by rw[List.length_set];exact hz) s.toks
 by_cases h0:0≤k
 ·have hk:k.toNat=j:=by
   rw[seqIndex_of h0 h4] at h1
   exact Option.some.inj h1
  exact PySem.W.ki_setAt ho h0 (by lia) (by rw[List.size_toArray,← hl];exact h4) (by rw[hk];exact⟨_,I',q⟩)
 ·have hk:(k+(its.toArray.size:Int)).toNat=j:=by
   rw[seqIndex_neg (by lia) h3] at h1
   rw[List.size_toArray,← hl]
   exact Option.some.inj h1
  exact PySem.W.ki_setBack ho (by lia) (by rw[List.size_toArray,← hl];exact h3) (by lia) (by rw[hk];exact⟨_,I',q⟩)
theorem sJ(lo hi:Option Int)(n:Nat):(sliceBounds lo hi none n).1=((HT.sIx n 0 lo:Nat):Int)∧(sliceBounds lo hi none n).2.1=((HT.sIx n n hi:Nat):Int)∧(sliceBounds lo hi none n).2.2=1:=by
 refine⟨?_,?_,rfl⟩
 ·cases lo with
  |none=>simp[sliceBounds,HT.sIx]
  |some i=>
   simp only[sliceBounds,HT.sIx,Option.getD_none,show (1:Int) > 0 by decide,if_true]
   by_cases h:i<0
   ·simp only[h,if_true] <;> lia
   ·simp only[h,if_false] <;> lia
 ·cases hi with
  |none=>simp[sliceBounds,HT.sIx]
  |some i=>
   simp only[sliceBounds,HT.sIx,Option.getD_none,show (1:Int) > 0 by decide,if_true]
   by_cases h:i<0
   ·simp only[h,if_true] <;> lia
   ·simp only[h,if_false] <;> lia
theorem rJ(its:List Value)(lo hi:Option Int):slicePick its.toArray lo hi none=((its.drop (HT.sIx its.length 0 lo)).take (HT.sIx its.length its.length hi-HT.sIx its.length 0 lo)).toArray:=by
 obtain⟨h1,h2,h3⟩:=sJ lo hi its.toArray.size
 unfold slicePick
 rw[h1,h2,h3]
 simp only[sliceRange_one,pick_run,List.size_toArray] <;> rfl
def rSlL(K:PySem.W.Frag):V→Option Int→Option Int→Hp→VK→Prop:=fun x lo hi H Q=>∃a xs,x=.ref a∧SqL K H a xs∧∀p,H p=none→Q (.ref p) (upd H p (.lst (cutV xs lo hi)))
theorem wD:SlR X (rSlL X.K):=by
 intro pins s σ H x v vl vu lo hi sl Q I rx hs pl pu h
 obtain⟨a,xs,rfl,hx,q⟩:=h
 cases rx
 obtain⟨its,r,ht,hz⟩:=I.list hx
 have hlen:=r.length
 refine⟨"list",_,slot_list_getitem.lookup,ht.isList.typeIs,?_⟩
 refine wpAny_getItem_list_slice ht.isList hs pl pu .none (by simp) ?_ (by rw[List.size_toArray] <;> lia)
 rw[rJ,← hlen]
 refine⟨.ref s.heap.objs.size,_,I.laid (t':=s.toks) (o:=.lst (cutV xs lo hi)) (fun b ob q=>Heap.get?_push_of_some _ q) (Nat.le_refl _) ?_,rfl,q _ (I.hok.fresh (Nat.le_refl _))⟩
 exact⟨Nat.le_trans (vB xs lo hi) hz,_,0,(r.drop (HT.sIx xs.length 0 lo)).take (HT.sIx xs.length xs.length hi-HT.sIx xs.length 0 lo),Heap.get?_push_size _ rfl⟩
def dC:V→Bool
 |.non=>true
 |.bl _=>true
 |.int _=>true
 |.str _=>true
 |_=>false
def eqV:V→V→Bool
 |.non,.non=>true
 |.bl a,.bl b=>a==b
 |.bl a,.int b=>(if a then 1 else 0)==b
 |.int a,.bl b=>a==(if b then 1 else 0)
 |.int a,.int b=>a==b
 |.str a,.str b=>a==b
 |_,_=>false
theorem sO{A:Around}{s:Shared}{y x:V}{u v:Value}(ry:RelV y u)(rx:RelV x v)(fy:dC y=true)(fx:dC x=true):SeqAt.EqAt A s u v (eqV y x):=by
 cases y with
 |non=>
  cases ry
  cases x with
  |non=>cases rx;exact SeqAt.EqAt.same _
  |bl b=>cases rx;exact SeqAt.EqAt.none_bool b
  |int b=>obtain⟨t,rfl⟩:=rx;exact SeqAt.EqAt.none_int b t
  |str b=>obtain⟨t,rfl⟩:=rx;exact SeqAt.EqAt.none_str b t
  |_=>exact absurd (show false=true from fx) Bool.false_ne_true
 |bl a=>
  cases ry
  cases x with
  |non=>cases rx;exact SeqAt.EqAt.bool_none a
  |bl b=>cases rx;exact SeqAt.EqAt.bool_bool a b
  |int b=>obtain⟨t,rfl⟩:=rx;exact SeqAt.EqAt.bool_int a b t
  |str b=>obtain⟨t,rfl⟩:=rx;exact SeqAt.EqAt.bool_str a b t
  |_=>exact absurd (show false=true from fx) Bool.false_ne_true
 |int a=>
  obtain⟨t',rfl⟩:=ry
  cases x with
  |non=>cases rx;exact SeqAt.EqAt.int_none a t'
  |bl b=>cases rx;exact SeqAt.EqAt.int_bool a t' b
  |int b=>obtain⟨t,rfl⟩:=rx;exact SeqAt.EqAt.int_int a t' b t
  |str b=>obtain⟨t,rfl⟩:=rx;exact SeqAt.EqAt.int_str a t' b t
  |_=>exact absurd (show false=true from fx) Bool.false_ne_true
 |str a=>
  obtain⟨t',rfl⟩:=ry
  cases x with
  |non=>cases rx;exact SeqAt.EqAt.str_none a t'
  |bl b=>cases rx;exact SeqAt.EqAt.str_bool a t' b
  |int b=>obtain⟨t,rfl⟩:=rx;exact SeqAt.EqAt.str_int a t' b t
  |str b=>obtain⟨t,rfl⟩:=rx;exact SeqAt.EqAt.str_str a t' b t
  |_=>exact absurd (show false=true from fx) Bool.false_ne_true
 |_=>exact absurd (show false=true from fy) Bool.false_ne_true
def eqU(x:V)(u:Value):Bool:=match u with
 |.none=>eqV .non x
 |.bool b=>eqV (.bl b) x
 |.int i _=>eqV (.int i) x
 |.str z _=>eqV (.str z) x
 |_=>false
theorem aAl{x y:V}{u:Value}(r:RelV y u)(f:dC y=true):eqU x u=eqV y x:=by
 cases y with
 |non=>cases r;rfl
 |bl b=>cases r;rfl
 |int i=>obtain⟨t,rfl⟩:=r;rfl
 |str z=>obtain⟨t,rfl⟩:=r;rfl
 |_=>exact absurd (show false=true from f) Bool.false_ne_true
theorem lY{x:V}:∀ {xs:List V} {us:List Value},Vals xs us→xs.all dC=true→us.any (eqU x)=xs.any fun y=>eqV y x
 |_,_,.nil,_=>rfl
 |y::xs,u::us,.cons r t,f=>by
  rw[List.all_cons,Bool.and_eq_true] at f
  rw[List.any_cons,List.any_cons,aAl r f.1,lY t f.2]
theorem jY{A:Around}{s:Shared}{x:V}{v:Value}(rx:RelV x v)(fx:dC x=true):∀ {xs:List V} {us:List Value},Vals xs us→xs.all dC=true→∀u∈us,SeqAt.EqAt A s u v (eqU x u)
 |_,_,.nil,_=>fun u hu=>by cases hu
 |y::xs,u::us,.cons r t,f=>fun u' hu=>by
  rw[List.all_cons,Bool.and_eq_true] at f
  rcases List.mem_cons.mp hu with rfl|hu
  ·rw[aAl r f.1];exact sO r rx f.1 fx
  ·exact jY rx fx t f.2 u' hu
def inV(x:V)(xs:List V):Bool:=xs.any fun y=>eqV y x
def rIn(K:PySem.W.Frag)(neg:Bool):R2:=fun x y H Q=>∃p xs,y=.ref p∧(SqL K H p xs∨SqT K H p xs)∧dC x=true∧xs.all dC=true∧Q (.bl (if neg then !inV x xs else inV x xs)) H
theorem iV:OpR X (compareOp .In) (rIn X.K false):=by
 intro pins s σ H x y v u Q I rx ry h
 obtain⟨p,xs,rfl,hq,fx,fs,q⟩:=h
 cases ry
 rcases hq with hq|hq
 ·obtain⟨its,r,pl,hz⟩:=I.list hq
  refine SeqAt.in_listAt (eqU x) pl.isList (fun w hw=>jY rx fx r fs w (by simpa using hw)) ⟨.bl _,H,I,rfl,?_⟩
  rw[show its.toArray.any (eqU x)=its.any (eqU x) by simp,lY r fs]
  exact q
 ·obtain⟨its,r,pl,hz⟩:=I.tuple hq
  refine SeqAt.in_tupleAt (eqU x) pl (fun w hw=>jY rx fx r fs w (by simpa using hw)) ⟨.bl _,H,I,rfl,?_⟩
  rw[show its.toArray.any (eqU x)=its.any (eqU x) by simp,lY r fs]
  exact q
theorem aW:cW X (.builtin "len") (fun xs H Q=>∃p ys,xs=[.ref p]∧(SqL X.K H p ys∨SqT X.K H p ys)∧Q (.int ys.length) H):=by
 intro pins s σ H xs us Q I r h
 obtain⟨p,ys,rfl,hq,q⟩:=h
 obtain⟨u,rfl,rx⟩:=rQ r
 cases rx
 have hn:=nZ
 rcases hq with hq|hq
 ·obtain⟨its,r',pl,hz⟩:=I.list hq
  have hlen:=r'.length
  exact Calls.call_len_list pl.isList (by simp only[List.size_toArray] <;> lia) ⟨.int ys.length,H,I.tok _,⟨s.toks+1,by rw[List.size_toArray,hlen]⟩,q⟩
 ·obtain⟨its,r',pl,hz⟩:=I.tuple hq
  have hlen:=r'.length
  exact len_tuple pl (by simp only[List.size_toArray] <;> lia) ⟨.int ys.length,H,I.tok _,⟨s.toks+1,by rw[List.size_toArray,hlen]⟩,q⟩
theorem eV:cW X (.type "list") (fun xs H Q=>∃p ys,xs=[.ref p]∧(SqL X.K H p ys∨SqT X.K H p ys)∧∀l,H l=none→Q (.ref l) (upd H l (.lst ys))):=by
 intro pins s σ H xs us Q I r h
 obtain⟨p,ys,rfl,hq,q⟩:=h
 obtain⟨u,rfl,rx⟩:=rQ r
 cases rx
 have fin:∀ (its:List Value),Vals ys its→ys.length≤sizeLine→∀ (h':Heap) (c':Nat),(∀b o',s.heap.get? b=some o'→h'.get? b=some o')→
   h'.get? s.heap.objs.size=some { cls:=.type "list",dict:=none,data:=.seq its.toArray c',slots:=#[] }→EP X pins σ Q (.ref s.heap.objs.size) { s with heap:=h' }:=fun its r' hz h' c' kp e=>
  ⟨.ref s.heap.objs.size,_,I.laid (t':=s.toks) kp (Nat.le_refl _) (show bW X.prog X.w _ h' _ (.lst ys) from ⟨hz,its,c',r',e⟩),rfl,q _ (I.hok.fresh (Nat.le_refl _))⟩
 rcases hq with hq|hq
 ·obtain⟨its,r',pl,hz⟩:=I.list hq
  have hlen:=r'.length
  obtain⟨o,ho,hc,n,hd⟩:=pl.isList
  exact call_list_seq p (.inl rfl) ho hc hd (fun h' c' kp e=>fin its r' hz h' c' kp e) (by simp only[List.size_toArray] <;> lia)
 ·obtain⟨its,r',pl,hz⟩:=I.tuple hq
  have hlen:=r'.length
  obtain⟨o,ho,hc,n,hd⟩:=pl
  exact call_list_seq p (.inr rfl) ho hc hd (fun h' c' kp e=>fin its r' hz h' c' kp e) (by simp only[List.size_toArray] <;> lia)
theorem dO:cW X (.type "tuple") (fun xs H Q=>∃p ys,xs=[.ref p]∧((SqL X.K H p ys∧∀l,H l=none→Q (.ref l) (upd H l (.tup ys)))∨(SqT X.K H p ys∧Q (.ref p) H))):=by
 intro pins s σ H xs us Q I r h
 obtain⟨p,ys,rfl,h⟩:=h
 obtain⟨u,rfl,rx⟩:=rQ r
 cases rx
 rcases h with ⟨hq,q⟩|⟨hq,q⟩
 ·obtain⟨its,r',pl,hz⟩:=I.list hq
  have hlen:=r'.length
  refine call_tuple_list pl.isList (fun h' kp=>?_) (by simp only[List.size_toArray] <;> lia)
  have I1:Inv X pins σ H { s with heap:=h' }:=I.kept (t':=s.toks) kp
  have I2:Inv X pins σ (upd H h'.objs.size (.tup ys)) { s with heap:=h'.push { cls:=.type "tuple",data:=.seq its.toArray } }:=
   I1.laid (t':=s.toks) (fun b o e=>Heap.get?_push_of_some _ e) (Nat.le_refl _) (show bW X.prog X.w _ _ _ (.tup ys) from ⟨hz,its,r',jF.new _ _⟩)
  exact⟨.ref h'.objs.size,_,I2,rfl,q _ (I1.hok.fresh (Nat.le_refl _))⟩
 ·obtain⟨its,r',pl,hz⟩:=I.tuple hq
  exact call_tuple_same pl ⟨.ref p,H,I,rfl,q⟩
def tyV(K:PySem.W.Frag)(T:String)(x:V)(H:Hp):Prop:=match x with
 |.str _=>T="str"
 |.int _=>T="int"
 |.ref p=>(T="list"∧∃xs,SqL K H p xs)∨(T="tuple"∧∃o,K.lookup p=some o∧o.cls=.type "tuple"∧o.dict=none)∨
   (T="dict"∧((∃kvs,H p=some (.dK kvs))∨∃kvs,H p=some (.dT kvs)))∨(T="set"∧∃S n,H p=some (.set S n))
 |_=>False
theorem aAm{pins:List (Addr×Obj)}{σ:St}{H:Hp}{s:Shared}{T:String}{x:V}{v:Value}(I:Inv X pins σ H s)(r:RelV x v)(ty:tyV X.K T x H):
  s.TypeIs v T∧∀a,v=.ref a→∃ob,s.heap.get? a=some ob∧ob.dict=none:=by
 cases x with
 |str z=>
  obtain⟨t,rfl⟩:=r
  cases (show T="str" from ty)
  exact⟨typeIs_str s z t,fun _ e=>nomatch e⟩
 |int i=>
  obtain⟨t,rfl⟩:=r
  cases (show T="int" from ty)
  exact⟨typeIs_int s i t,fun _ e=>nomatch e⟩
 |ref p=>
  cases r
  rcases ty with ⟨rfl,xs,hq⟩|⟨rfl,o,hk,hc,hd⟩|⟨rfl,hk⟩|⟨rfl,S,n,hk⟩
  ·obtain⟨its,_,pl,_⟩:=I.list hq
   refine⟨pl.isList.typeIs,fun a e=>?_⟩
   cases e
   obtain⟨o,n,e,c,hd,_⟩:=pl
   exact⟨o,e,hd⟩
  ·refine⟨⟨o,I.kIn p o hk,hc⟩,fun a e=>?_⟩
   cases e
   exact⟨o,I.kIn _ o hk,hd⟩
  ·have z:∃o,s.heap.get? p=some o∧o.ExactDict:=by
    rcases hk with ⟨kvs,hk⟩|⟨kvs,hk⟩
    ·obtain⟨_,_,_,_,o,_,_,e,ex,_⟩:=I.hok p _ hk
     exact⟨o,e,ex⟩
    ·obtain⟨_,_,_,_,o,_,_,e,ex,_⟩:=I.hok p _ hk
     exact⟨o,e,ex⟩
   obtain⟨o,e,ex⟩:=z
   refine⟨⟨o,e,ex.1⟩,fun a e2=>?_⟩
   cases e2
   exact⟨o,e,ex.2.1⟩
  ·obtain⟨o,_,_,_,e,ex,_⟩:=I.hok p _ hk
   refine⟨⟨o,e,ex.1⟩,fun a e2=>?_⟩
   cases e2
   exact⟨o,e,ex.2.1⟩
 |_=>exact False.elim ty
def tBM0(K:PySem.W.Frag)(T:String)(r:V→List V→Hp→VK→Prop)(to:TE):TE:=fun σ H Q=>to σ H fun x H1=>tyV K T x H1∧r x [] H1 Q
def tBM(K:PySem.W.Frag)(T:String)(r:V→List V→Hp→VK→Prop)(to:TE)(t:TA):TE:=fun σ H Q=>to σ H fun x H1=>tyV K T x H1∧t σ H1 fun xs H2=>r x xs H2 Q
variable {o e:Expr} {es:List Expr} {to:TE} {t:TA} {name:Str} {apos cpos:Pos} {T id:String} {r:V→List V→Hp→VK→Prop}
theorem aAn(pa:PlainAttrs T)(slot:Slot T name id)(hty:typeOf (.builtin id)=pure (.type "method_descriptor"))(hm:MtR X id r)(ho:PE X o to)(hbase:attributeBase o name X.env (eval o X.env)=eval o X.env:=by rfl)(hline:(apos.endLine==cpos.line)=true:=by rfl):PE X (.Call (.Attribute o name apos) [] [] cpos) (tBM0 X.K T r to):=by
 intro pins s σ H Q I h
 refine wpAny_Call_method0_late hbase hline (thn (ho pins s σ H _ I h) fun v s1 ⟨x,H1,I1,r1,ty,q1⟩=>?_)
 obtain⟨h1,h2⟩:=aAm I1 r1 ty
 exact⟨T,id,pa,slot,hty,h1,h2,Calls.callWith_builtin rfl (PySem.evalArgs_none (hm pins s1 σ H1 x [] v [] Q I1 r1 .nil q1))⟩
theorem cX(pa:PlainAttrs T)(slot:Slot T name id)(hty:typeOf (.builtin id)=pure (.type "method_descriptor"))(hm:MtR X id r)(ho:PE X o to)(ha:PA X (e::es) t)(hbase:attributeBase o name X.env (eval o X.env)=eval o X.env:=by rfl)(hfew:((backTo cpos (starEach (e::es) X.env)).all (fun x=>!x.1)&&(backToKw cpos (keywordEach [] X.env)).all (fun x=>x.1.isSome)
   && decide ((e::es).length+([]:List Keyword).length+(if ([]:List Keyword).isEmpty then 0 else 1)<30))=true:=by rfl)(hline:(apos.endLine==cpos.line)=true:=by rfl)(hs:starEach (e::es) X.env=(false,eval e X.env)::starEach es X.env:=by rfl)(hplain:(backTo cpos (starEach es X.env)).any (·.1)=false:=by rfl):
  PE X (.Call (.Attribute o name apos) (e::es) [] cpos) (tBM X.K T r to t):=by
 intro pins s σ H Q I h
 refine wpAny_Call_method_late hbase hfew hline rfl (thn (ho pins s σ H _ I h) fun v s1 ⟨x,H1,I1,r1,ty,q1⟩=>?_)
 obtain⟨h1,h2⟩:=aAm I1 r1 ty
 refine⟨T,id,pa,slot,hty,h1,h2,?_⟩
 have hA:=ha cpos pins s1 σ H1 _ I1 q1
 rw[hs] at hA ⊢
 refine Calls.callWith_builtin (by show (false||(backTo cpos (starEach es X.env)).any (·.1))=false;rw[hplain] <;> rfl) (Calls.evalArgs_plain ?_)
 exact thn hA fun us s2 ⟨vs,H2,I2,r2,q2⟩=>hm pins s2 σ H2 x vs v us Q I2 r1 r2 q2
end
end L2
namespace L2
open PySem PySem.Spec PyProof.Rows
def MtM(X:Cx)(id:String)(r:V→List V→Hp→VK→Prop):Prop:=
 ∀ (pins:List (Addr×Obj)) (s:Shared) (σ:St) (H:Hp) (x:V) (xs:List V) (v:Value) (us:List Value) (Q:VK),Inv X pins σ H s→RelV x v→Vals xs us→r x xs H Q→
  wpAny (model X.prog X.w) X.A (call (.builtin id) (v::us)) (EP X pins σ Q) X.xe s
theorem Vals.one:∀ {x:V} {us:List Value},Vals [x] us→∃u,us=[u]∧RelV x u
 |_,_,.cons r .nil=>⟨_,rfl,r⟩
theorem Vals.two:∀ {x y:V} {us:List Value},Vals [x,y] us→∃u v,us=[u,v]∧RelV x u∧RelV y v
 |_,_,_,.cons r (.cons q .nil)=>⟨_,_,rfl,r,q⟩
theorem Vals.zero:∀ {us:List Value},Vals [] us→us=[]
 |_,.nil=>rfl
theorem Vals.dropLast{xs:List V}{us:List Value}(h:Vals xs us):Vals xs.dropLast us.dropLast:=by
 induction h with
 |nil=>exact .nil
 |cons r t ih=>
  cases t with
  |nil=>exact .nil
  |cons q t'=>exact .cons r ih
theorem Vals.eraseIdx:∀ {xs:List V} {us:List Value} (i:Nat),Vals xs us→Vals (xs.eraseIdx i) (us.eraseIdx i)
 |_,_,_,.nil=>.nil
 |_,_,0,.cons _ t=>t
 |_,_,i+1,.cons r t=>.cons r (Vals.eraseIdx i t)
theorem Vals.reverse{xs:List V}{us:List Value}(h:Vals xs us):Vals xs.reverse us.reverse:=by
 induction h with
 |nil=>exact .nil
 |cons r t ih=>rw[List.reverse_cons,List.reverse_cons];exact Vals.append ih (.cons r .nil)
theorem Vals.rep{xs:List V}{us:List Value}(h:Vals xs us):∀k:Nat,Vals (List.replicate k xs).flatten (List.replicate k us).flatten
 |0=>.nil
 |k+1=>by
  rw[List.replicate_succ,List.replicate_succ,List.flatten_cons,List.flatten_cons]
  exact Vals.append h (Vals.rep h k)
theorem yA{α:Type}(l:List α):l.eraseIdx (l.length-1)=l.dropLast:=by
 induction l with
 |nil=>rfl
 |cons a r ih=>
  cases r with
  |nil=>rfl
  |cons b r=>
   have e:(a::b::r).length-1=((b::r).length-1)+1:=by
    have h1:(a::b::r).length=r.length+2:=rfl
    have h2:(b::r).length=r.length+1:=rfl
    lia
   rw[e,List.eraseIdx_cons_succ,ih]
   all_goals rfl
theorem qQ{α:Type}:∀ (l:List α) (i:Nat),(l.eraseIdx i).length≤l.length
 |[],_=>Nat.le_refl _
 |_::_,0=>Nat.le_succ _
 |_::r,i+1=>Nat.succ_le_succ (qQ r i)
theorem qR(its:List Value):∀ (k:Nat) (acc:List Value),
  List.foldl (fun x1 x2=>x1++x2) acc.toArray (List.replicate k its.toArray)=(acc++(List.replicate k its).flatten).toArray
 |0,acc=>by simp
 |k+1,acc=>by
  have e:acc.toArray++its.toArray=(acc++its).toArray:=by simp
  have e2:(acc++its)++(List.replicate k its).flatten=acc++(List.replicate (k+1) its).flatten:=by
   rw[List.replicate_succ,List.flatten_cons,List.append_assoc]
  rw[← e2,← qR its k (acc++its),← e,List.replicate_succ,List.foldl_cons]
section
variable {X:Cx} {pins:List (Addr×Obj)} {σ:St} {H:Hp} {s:Shared} {l b:Addr} {xs ys zs:List V}
theorem Inv.lset{its its':List Value}{n:Nat}{f:Array Value→Array Value}{t':Nat}(I:Inv X pins σ H s)(hH:H l=some (.lst xs))(e:s.heap.get? l=some { cls:=.type "list",data:=.seq its.toArray n })(hf:f its.toArray=its'.toArray)(hv:Vals ys its')(hz:ys.length≤sizeLine):
  Inv X pins σ (upd H l (.lst ys)) { s with heap:=s.heap.update l (Obj.mapSeq f),toks:=t' }:=by
 have q:=PySem.IsL.update e f
 rw[hf] at q
 refine I.write (x:=l) (e:=l) (by rw[hH];exact trivial) (.inl rfl) (fun b' u hb hu=>(Heap.get?_update_other s.heap (Obj.mapSeq f) (Ne.symm hb)).trans hu) ⟨_,q⟩ ?_
 exact⟨hz,its',_,hv,q⟩
theorem Inv.lnew{its:List Value}{t':Nat}(I:Inv X pins σ H s)(hv:Vals ys its)(hz:ys.length≤sizeLine):
  Inv X pins σ (upd H s.heap.objs.size (.lst ys)) { s with heap:=s.heap.push { cls:=.type "list",data:=.seq its.toArray },toks:=t' }:=
 I.laid (fun _ _ q=>Heap.get?_push_of_some _ q) (Nat.le_refl _) ⟨hz,its,0,hv,Heap.get?_push_size _ rfl⟩
theorem Inv.fresh(I:Inv X pins σ H s):H s.heap.objs.size=none:=I.hok.fresh (Nat.le_refl _)
theorem Inv.lstM(I:Inv X pins σ H s)(hH:H l=some (.lst xs)):xs.length≤sizeLine∧∃ (its:List Value) (n:Nat),Vals xs its∧xs.length=its.length∧s.heap.get? l=some { cls:=.type "list",data:=.seq its.toArray n }:=by
 obtain⟨z,its,n,r,e⟩:=I.hok l _ hH
 exact⟨z,its,n,r,r.length,e⟩
theorem sQ{n:Nat}(h:n≤sizeLine):Builtin.List.listTooLong n=false:=by
 unfold Builtin.List.listTooLong
 exact decide_eq_false (by lia)
end
section
variable {X:Cx}
def aCK:V→List V→Hp→VK→Prop:=fun x vs H Q=>∃l xs y,x=.ref l∧vs=[y]∧H l=some (.lst xs)∧xs.length<sizeLine∧Q .non (upd H l (.lst (xs++[y])))
theorem cP:MtM X "list.append" aCK:=by
 intro pins s σ H x vs v us Q I rx rv h
 obtain⟨l,xs,y,rfl,rfl,hH,hz,q⟩:=h
 cases rx
 obtain⟨u,rfl,ru⟩:=rv.one
 obtain⟨z,its,n,r,hl,e⟩:=I.lstM hH
 refine call_meets F.slot_list_append ⟨_,e,rfl⟩ F.entry_list_append (F.args_list_append_2 _ _) (PySem.list_append l its.toArray n u (by rw[List.size_toArray];lia)) ⟨e,?_⟩
 refine⟨.non,_,I.lset (its':=its++[u]) hH e (by simp) (r.append (.cons ru .nil)) ?_,rfl,q⟩
 rw[List.length_append,List.length_singleton]
 lia
def aCL:V→List V→Hp→VK→Prop:=fun x vs H Q=>∃l b xs zs,x=.ref l∧vs=[.ref b]∧H l=some (.lst xs)∧H b=some (.lst zs)∧xs.length+zs.length≤sizeLine∧Q .non (upd H l (.lst (xs++zs)))
theorem kS:MtM X "list.extend" aCL:=by
 intro pins s σ H x vs v us Q I rx rv h
 obtain⟨l,b,xs,zs,rfl,rfl,hH,hB,hz,q⟩:=h
 cases rx
 obtain⟨u,rfl,ru⟩:=rv.one
 cases ru
 obtain⟨z,its,n,r,hl,e⟩:=I.lstM hH
 obtain⟨z2,its2,n2,r2,hl2,e2⟩:=I.lstM hB
 have hsz:its.toArray.size+its2.toArray.size≤sizeLine:=by rw[List.size_toArray,List.size_toArray];lia
 have hlong:¬ (!its.toArray.isEmpty&&Builtin.List.listTooLong (its.toArray.size+its2.toArray.size))=true:=by
  rw[sQ hsz,Bool.and_false]
  exact Bool.false_ne_true
 refine call_meets F.slot_list_extend ⟨_,e,rfl⟩ F.entry_list_extend (F.args_list_extend_2 _ _)
  (AutoSeq1.list_extend_list_list_0 l its.toArray n b its2.toArray n2 hlong (by rw[List.size_toArray];lia) (by lia)) ⟨e,e2,?_⟩
 refine⟨.non,_,I.lset (its':=its++its2) hH e (by simp) (r.append r2) ?_,rfl,q⟩
 rw[List.length_append]
 lia
def rPop:V→List V→Hp→VK→Prop:=fun x vs H Q=>∃l xs y,x=.ref l∧vs=[]∧H l=some (.lst xs)∧xs[xs.length-1]?=some y∧Q y (upd H l (.lst xs.dropLast))
theorem aDU:MtM X "list.pop" rPop:=by
 intro pins s σ H x vs v us Q I rx rv h
 obtain⟨l,xs,y,rfl,rfl,hH,hy,q⟩:=h
 cases rx
 have hus:=rv.zero
 subst hus
 obtain⟨z,its,n,r,hl,e⟩:=I.lstM hH
 obtain⟨u,hu,ru⟩:=r.get hy
 have hy':its.toArray[its.toArray.size-1]?=some u:=by
  show its.toArray[its.length-1]?=some u
  rw[← Array.getElem?_toList,← hl]
  exact hu
 refine call_meets F.slot_list_pop ⟨_,e,rfl⟩ F.entry_list_pop (F.args_list_pop_1 _) (MeetsSeq.list_pop_last l its.toArray n u hy' (by rw[List.size_toArray];lia)) ⟨e,?_⟩
 refine⟨y,_,I.lset (its':=its.dropLast) hH e ?_ r.dropLast ?_,ru,q⟩
 ·show its.toArray.eraseIdxIfInBounds (its.toArray.size-1)=its.dropLast.toArray
  rw[List.size_toArray,List.eraseIdxIfInBounds_toArray,yA]
 ·rw[List.length_dropLast]
  lia
def aAo:V→List V→Hp→VK→Prop:=fun x vs H Q=>∃l xs i k y,x=.ref l∧vs=[.int i]∧H l=some (.lst xs)∧-(2 ^ 63)≤i∧i<2 ^ 63∧seqIndex? i xs.length=some k∧xs[k]?=some y∧Q y (upd H l (.lst (xs.eraseIdx k)))
theorem nA:MtM X "list.pop" aAo:=by
 intro pins s σ H x vs v us Q I rx rv h
 obtain⟨l,xs,i,k,y,rfl,rfl,hH,h1,h2,hk,hy,q⟩:=h
 cases rx
 obtain⟨u,rfl,ru⟩:=rv.one
 obtain⟨t,rfl⟩:=ru
 obtain⟨z,its,n,r,hl,e⟩:=I.lstM hH
 obtain⟨w,hw,rw'⟩:=r.get hy
 refine call_meets F.slot_list_pop ⟨_,e,rfl⟩ F.entry_list_pop (F.args_list_pop_2 _ _)
  (MeetsSeq.list_pop_at l its.toArray n i t k w (fitsIndex_both h1 h2) (by rw[List.size_toArray,← hl];exact hk) (by rw[← Array.getElem?_toList];exact hw) (by rw[List.size_toArray];lia)) ⟨e,?_⟩
 refine⟨y,_,I.lset (its':=its.eraseIdx k) hH e ?_ (r.eraseIdx k) ?_,rw',q⟩
 ·show its.toArray.eraseIdxIfInBounds k=(its.eraseIdx k).toArray
  rw[List.eraseIdxIfInBounds_toArray]
 ·have:=qQ xs k
  lia
def aBz:V→List V→Hp→VK→Prop:=fun x vs H Q=>∃l xs,x=.ref l∧vs=[]∧H l=some (.lst xs)∧Q .non (upd H l (.lst xs.reverse))
theorem yB:MtM X "list.reverse" aBz:=by
 intro pins s σ H x vs v us Q I rx rv h
 obtain⟨l,xs,rfl,rfl,hH,q⟩:=h
 cases rx
 have hus:=rv.zero
 subst hus
 obtain⟨z,its,n,r,hl,e⟩:=I.lstM hH
 refine call_meets F.slot_list_reverse ⟨_,e,rfl⟩ F.entry_list_reverse (F.args_list_reverse_1 _) (AutoSeq1.list_reverse_list_0 l its.toArray n (by rw[List.size_toArray];lia)) ⟨e,?_⟩
 refine⟨.non,_,I.lset (its':=its.reverse) hH e (by simp) r.reverse ?_,rfl,q⟩
 rw[List.length_reverse]
 lia
def rCat:R2:=fun x y H Q=>∃l b xs zs,x=.ref l∧y=.ref b∧H l=some (.lst xs)∧H b=some (.lst zs)∧xs.length+zs.length≤sizeLine∧∀p,H p=none→Q (.ref p) (upd H p (.lst (xs++zs)))
theorem aAp:OpR X (binaryOp .Add) rCat:=by
 intro pins s σ H x y v u Q I rx ry h
 obtain⟨l,b,xs,zs,rfl,rfl,hH,hB,hz,q⟩:=h
 cases rx
 cases ry
 obtain⟨z,its,n,r,hl,e⟩:=I.lstM hH
 obtain⟨z2,its2,n2,r2,hl2,e2⟩:=I.lstM hB
 refine PySem.P.add_list e e2 ?_ (by rw[List.size_toArray,List.size_toArray];lia)
 have ea:its.toArray++its2.toArray=(its++its2).toArray:=by simp
 rw[ea]
 exact⟨.ref _,_,I.lnew (t':=s.toks) (r.append r2) (by rw[List.length_append];lia),rfl,q _ I.fresh⟩
def rRep:R2:=fun x y H Q=>∃l k xs,x=.ref l∧y=.int k∧H l=some (.lst xs)∧-(2 ^ 63)≤k∧k<2 ^ 63∧xs.length*k.toNat≤sizeLine∧
 ∀p,H p=none→Q (.ref p) (upd H p (.lst (List.replicate k.toNat xs).flatten))
theorem aCM{α:Type}(xs:List α)(k:Nat):(List.replicate k xs).flatten.length=k*xs.length:=by
 induction k with
 |zero=>simp
 |succ k ih=>rw[List.replicate_succ,List.flatten_cons,List.length_append,ih,Nat.succ_mul,Nat.add_comm]
theorem kT:OpR X (binaryOp .Mult) rRep:=by
 intro pins s σ H x y v u Q I rx ry h
 obtain⟨l,k,xs,rfl,rfl,hH,h1,h2,hz,q⟩:=h
 cases rx
 obtain⟨t,rfl⟩:=ry
 obtain⟨z,its,n,r,hl,e⟩:=I.lstM hH
 have hlen:its.toArray.size*k.toNat≤sizeLine:=by rw[List.size_toArray,← hl];exact hz
 have hcap:¬ its.toArray.size*k.toNat > (2 ^ 63-1) / 8:=by
  have:(sizeLine:Nat)≤(2 ^ 63-1) / 8:=by decide
  lia
 have hfit:¬ (!Builtin.List.listFitsIndex k)=true:=by
  rw[fitsIndex_both h1 h2]
  exact Bool.false_ne_true
 have hlong:¬ Builtin.List.listTooLong (its.toArray.size*k.toNat)=true:=by
  rw[sQ hlen]
  exact Bool.false_ne_true
 have hnew:List.foldl (fun x1 x2=>x1++x2) #[] (List.replicate (if its.toArray.isEmpty=true then 0 else k.toNat) its.toArray)=(List.replicate k.toNat its).flatten.toArray:=by
  have f0:∀m:Nat,List.foldl (fun x1 x2=>x1++x2) #[] (List.replicate m its.toArray)=(List.replicate m its).flatten.toArray:=fun m=>by
   have:=qR its m []
   rw[List.nil_append] at this
   exact this
  rw[f0]
  cases its with
  |nil=>simp
  |cons a r'=>rw[if_neg (by simp)]
 refine wpAny_binaryOp_repeat_ref (T:="list") (U:="int") (by decide) ⟨_,e,rfl⟩ (fun s'=>typeIs_int s' k t) noFill_list_mul F.fills_int_mul F.slot_int_rmul repeat_list F.slot_int_index.lookup
  (call_meets F.slot_int_rmul (typeIs_int s k t) F.entry_int_rmul (F.args_int_rmul_2 _ _) (int___rmul___int_list k t l its.toArray n)
   ⟨e,rfl,⟨_,e,rfl⟩,call_meets F.slot_list_mul ⟨_,e,rfl⟩ F.entry_list_mul (F.args_list_mul_2 _ _) (AutoListH.list___mul___list_int_3 l its.toArray n k t hfit hcap hlong) ⟨e,?_⟩⟩)
 rw[hnew]
 exact⟨.ref _,_,I.lnew (t':=s.toks) (r.rep k.toNat) (by rw[aCM,Nat.mul_comm];exact hz),rfl,q _ I.fresh⟩
end
section
variable {prog:Program} {w:World} {A:Around} {E:Value→Shared→Prop} {s:Shared}
end
section
variable {X:Cx}
end
end L2
namespace Att
open PySem PySem.W PySem.Calls PyProof.Rows
theorem oC{P:Params}{h:Heap}:∀ (ns:List Int) (vs:List Value),WellAll P h vs (ns.map WData.int)→IntsAre vs ns:=by
 intro ns
 induction ns with
 |nil=>
  intro vs w
  rw[List.map_nil] at w
  cases w
  exact .nil
 |cons n ns ih=>
  intro vs w
  rw[List.map_cons] at w
  cases w with
  |cons a b=>
   cases a
   exact .cons _ _ (ih _ b)
theorem aAq{l:OpenLaw}{n:Nat}(hn:l.most=some n){P:Params}{h:Heap}{args:List WData}{vals:List Value}(hpre:l.row.toRowW.claim.pre args=true)(hwl:WellAll P h vals args):
  ∃a vs ns,vals=[Value.ref a]∧args=[WData.list (ns.map WData.int)]∧h.get? a=some { cls:=.type "list",data:=.seq vs.toArray }∧IntsAre vs ns∧ns.length≤n:=by
 have hsh:WShape.hasAll [] args [.list .int]=true:=(pre_splitW hpre).1
 have hc:l.pre.holds [] { args:=args }=true:=(pre_splitW hpre).2
 obtain⟨d,r,rfl,h1,h2⟩:=hasAllW_cons hsh
 obtain rfl:=hasAllW_nil h2
 obtain⟨xs,rfl,h3⟩:=hasW_list h1
 obtain⟨ns,rfl⟩:=items_int h3
 have hlen:ns.length≤n:=by
  unfold OpenLaw.pre at hc
  have h4:(WTm.not (.lt (.lit (.int (n:Int))) (.len (.arg 0)))).holds [] { args:=[.list (ns.map .int)] }=true:=by
   have h4:=(holds_andW hc).1
   rw[hn] at h4
   exact h4
  have h5:=condW_of h4 (w_not (w_lt w_lit (w_len_list (w_arg rfl))))
  rw[List.length_map] at h5
  refine Nat.le_of_not_lt fun q=>?_
  have q':(n:Int)<((ns.length:Nat):Int):=by lia
  first
   |(rw[decide_eq_true q'] at h5;exact absurd h5 (by decide))
   |(simp at h5;lia)
 cases hwl with
 |cons w1 w2=>
  cases w2
  cases w1 with
  |list ho hall=>exact⟨_,_,ns,rfl,rfl,ho,oC ns _ hall,hlen⟩
theorem aAr(l:OpenLaw)(args:List WData):l.row.toRowW.claim.post args (.bool true) args=true:=
 postW_of (r:=l.row.toRowW) (X:=(true==true))
  (show WShape.has [] (.bool true) .bool=true by first|rfl|decide|simp[WShape.has,WShape.arms,WShape.armsAll])
  (show (WTm.eq .res (.lit (.bool true))).value [] { args:=args,res:=some (.bool true),after:=args }=some (.bool (true==true)) from w_eq_bool (w_res rfl) w_lit) rfl
theorem attach_call{l:OpenLaw}{n:Nat}{q:Program}{loose:List Str}{XP:(Str→Option Value)→Heap→Prop}{YP:World→Heap→Prop}{d:DefRec}(hn:l.most=some n)(hdf:d.params.defaults=[])(call:∀ (w:World) (s₀ s₁:Shared) (mg mb:Str→Option Value) (fa:Addr) (o:Obj) (pm cd doc:Value) (a:Addr) (vs:List Value) (ns:List Int),
   Ground q loose [] XP w s₀ mg mb s₁.heap→YP w s₁.heap→
   s₁.heap.get? fa=some o→o.data=.func (docDef d.name d.params d.body d.scope pm cd doc)→s₁.heap.CodeRec cd d.name→mg d.name=some (.ref fa)→
   s₁.heap.get? a=some { cls:=.type "list",data:=.seq vs.toArray }→IntsAre vs ns→ns.length≤n→s₁.gens=#[]→
   codeAny (model l.prog w) callerA (.call (.ref fa) ⟨[.ref a],[]⟩) (fun r s'=>r=.ok (.ret (.bool true))∧OldK s₁.heap s'.heap∧s'.os=s₁.os∧AllBare s'.gens) s₁):
  WalkO q loose XP YP l.row.toRowW d [] (fun f vs=>PySem.call f vs):=by
 intro w s₀ s₁ mg mb G Y fa o pm cd doc dV kV ho hd hcd hD hmg hg args vals as hpre hlay hrd hwl hlo
 obtain rfl:dV=.none:=Dflts.none hD hdf
 obtain rfl:kV=.none:=Dflts.noKw hD
 obtain⟨a,vs,ns,rfl,rfl,hobj,hints,hlen⟩:=aAq hn hpre hwl
 refine enter_call (codeAny_mono (call w s₀ s₁ mg mb fa o pm cd doc a vs ns G Y ho (fd_plain hd) hcd hmg hobj hints hlen hg) fun r s' hq=>?_)
 obtain⟨rfl,h2,h3,h4⟩:=hq
 exact⟨.inl ⟨.bool true,.bool true,[],rfl,fun _=>rfl,.bool true,aAr l _,fun _=>⟨List.Pairwise.nil,fun _ hm=>(nomatch hm)⟩⟩,h2,h3,h4⟩
section
variable {prog:Program} {w:World} {A:Around} {E:Value→Shared→Prop} {s:Shared} {K:Frag}
end
end Att
namespace L2
open PySem PySem.Spec PyProof.Rows
theorem kU:∀ {vs:List Value} {ns:List Int},IntsAre vs ns→Vals (ns.map V.int) vs
 |_,_,.nil=>.nil
 |_,_,.cons n t h=>.cons ⟨t,rfl⟩ (kU h)
end L2
namespace L2
open PySem PySem.Spec PyProof.Rows
end L2
namespace L2
open PySem PySem.Spec PyProof.Rows
def pK(s:Stmt)(j:Nat):Stmt:=match s with
 |.ClassDef _ _ _ body _ _ _ _ _ _ _=>body.getD j (.Pass ⟨0,0,0,0⟩)
 |_=>.Pass ⟨0,0,0,0⟩
def cS(s:Stmt):Arguments:=match s with
 |.FunctionDef _ a _ _ _ _ _ _ _ _=>a
 |_=>{ posonlyargs:=[],args:=[],vararg:=none,kwonlyargs:=[],kw_defaults:=[],kwarg:=none,defaults:=[] }
def cC(s:Stmt):List Stmt:=match s with
 |.FunctionDef _ _ b _ _ _ _ _ _ _=>b
 |_=>[]
def aN(s:Stmt):Scope:=match s with
 |.FunctionDef _ _ _ _ _ _ sc _ _ _=>sc
 |_=>{ kind:=.function,names:=[],isGenerator:=false,isCoroutine:=false }
abbrev CX0:CXT:=fun _ _ _ _ _ _=>False
abbrev E0:XK:=fun _ _ _=>False
theorem aT{X:Cx}:iJ CX0 X E0:=fun _ _ _ _ _ _ _ h=>h.elim
structure Fun(K:PySem.W.Frag)(x qual:Str)(st:Stmt)(f:Addr)(fd:FuncData):Prop where
 ex:∃ (oc:Value) (od:Option Addr) (kV doc pm:Value) (an:Option Addr) (cdv ct:Value) (osl:Array (Option Value)),
  fd=PySem.W.fnOf x qual (cS st) (cC st) (aN st) .none kV doc pm an cdv ct∧K.lookup f=some ⟨oc,od,.func fd,osl⟩∧PySem.W.codeIn K cdv qual=true
 kp:PySem.W.keepIn K (.ref f)=true
section
variable {P:Program} {w:World} {K:PySem.W.Frag} {mg:Str→Option Value} {base:Heap}
theorem Fun.ok{x qual:Str}{st:Stmt}{f:Addr}{fd:FuncData}{N ps:List Str}{k:Nat}{sp:Sp}(F:Fun K x qual st f fd)(S:aZ N ps (aN st))(len:∀vs H Q E,sp vs H Q E→vs.length=ps.length)(hbody:∀ (cdv:Value) (A:Around) (outer:List Env) (s:Shared) (H:Hp) (vs:List V) (Q:VK) (E:XK),Room k (A.deeper (envOfC qual (aN st) s.heap.objs.size f cdv))→sp vs H Q E→
   ∃t,PSs (cxOf CX0 P w K mg base N qual (aN st) f cdv A outer s H E).nox (cC st) t∧t { nx:=fun _ H'=>Q .non H',rt:=Q } (start N vs) H):FnOk P w K mg base CX0 (k+1) f fd ps sp:=by
 obtain⟨oc,od,kV,doc,pm,an,cdv,ct,osl,rfl,lk,hcd⟩:=F.ex
 refine aCo lk hcd S len fun A outer s H vs Q E hr hsp=>?_
 obtain⟨t,h,q⟩:=hbody cdv A outer s H vs Q E hr hsp
 exact⟨t,h.nox,q⟩
theorem Fun.binds{x qual:Str}{st:Stmt}{f:Addr}{fd:FuncData}{ps:List Str}(F:Fun K x qual st f fd)(h:∀ (kV doc pm:Value) (an:Option Addr) (cdv ct:Value) (us:List Value),us.length=ps.length→bindArgs (PySem.W.fnOf x qual (cS st) (cC st) (aN st) .none kV doc pm an cdv ct) ⟨us,[]⟩=pure (ps.zip us)):fY K fd ps []:=by
 obtain⟨oc,od,kV,doc,pm,an,cdv,ct,osl,rfl,lk,hcd⟩:=F.ex
 exact .all (h kV doc pm an cdv ct)
theorem oE{x qual:Str}{st:Stmt}{f:Addr}{oc:Value}{od an:Option Addr}{osl:Array (Option Value)}{kV doc pm cdv ct:Value}(l:K.lookup f=some ⟨oc,od,.func (PySem.W.fnOf x qual (cS st) (cC st) (aN st) .none kV doc pm an cdv ct),osl⟩)(c:PySem.W.codeIn K cdv qual=true)(k:PySem.W.keepIn K (.ref f)=true):Fun K x qual st f (PySem.W.fnOf x qual (cS st) (cC st) (aN st) .none kV doc pm an cdv ct):=⟨⟨oc,od,kV,doc,pm,an,cdv,ct,osl,rfl,l,c⟩,k⟩
end
section
variable {X:Cx}
theorem pv(i:Nat){x:Str}{pos:Pos}(hN:X.N[i]?=some x:=by rfl)(hv:Vis X.env.scope x:=by first|exact Or.inl rfl|exact Or.inr (Or.inl rfl)|exact Or.inr (Or.inr rfl))(hd:(x==("__debug__":Str))=false:=by decide)(hcd:(x==("__classdict__":Str))=false:=by decide):PE X (.Name x pos) (tVar i):=aDL hN hv hd hcd
end
theorem iteF{A B:Prop}(h:B):if false=true then A else B:=by
 rw[if_neg Bool.false_ne_true]
 exact h
theorem iteT{A B:Prop}(h:A):if true=true then A else B:=by
 rw[if_pos rfl]
 exact h
theorem ite2{c A B:Prop}[Decidable c](h1:c→A)(h2:¬ c→B):if c then A else B:=by
 by_cases h:c
 ·rw[if_pos h]
  exact h1 h
 ·rw[if_neg h]
  exact h2 h
def Same(H H':Hp):Prop:=∀b o,H b=some o→H' b=some o
theorem Same.refl(H:Hp):Same H H:=fun _ _ h=>h
theorem Same.trans{H H1 H2:Hp}(a:Same H H1)(b:Same H1 H2):Same H H2:=fun c o h=>b c o (a c o h)
theorem Same.free{H H':Hp}(e:Same H H'){l:Addr}(h:H' l=Option.none):H l=Option.none:=by
 cases q:H l with
 |none=>rfl
 |some o=>
  rw[e l o q] at h
  cases h
end L2
namespace L2
open PySem PySem.Spec PyProof.Rows
def cSt(src:List (Option Nat))(σ:St):St:=src.map fun o=>match o with|some j=>σ.getD j none|none=>none
theorem aCN{src:List (Option Nat)}{σ:St}{i:Nat}{v:V}(h:(cSt src σ)[i]?=some (some v)):∃j,src[i]?=some (some j)∧σ[j]?=some (some v):=by
 unfold cSt at h
 rw[List.getElem?_map] at h
 cases e:src[i]? with
 |none=>rw[e] at h;cases h
 |some o=>
  rw[e] at h
  cases o with
  |none=>cases h
  |some j=>
   refine⟨j,rfl,?_⟩
   have h':σ.getD j none=some v:=Option.some.inj h
   rw[List.getD_eq_getElem?_getD] at h'
   cases e2:σ[j]? with
   |none=>rw[e2] at h';cases h'
   |some o=>rw[e2] at h';rw[show o=some v from h']
structure fQ(NB:List Str)(src:List (Option Nat))(scope:Scope)(X:Cx):Prop where
 kind:scope.kind=.function
 nd:NB.Nodup
 len:src.length=NB.length
 cells:∀y∈scope.names,y.2=.cell→scope.names.lookup y.1=some .cell
 names:∀y∈scope.names,y.2=.local→scope.names.lookup y.1=some .local
 free:∀y∈scope.names,y.2=.free→X.env.scope.names.lookup y.1=some .cell∨X.env.scope.names.lookup y.1=some .free
 src:∀ (i:Nat) (x:Str) (j:Nat),NB[i]?=some x→src[i]?=some (some j)→X.N[j]?=some x∧scope.names.lookup x=some .free
def pL(scope:Scope)(x:Str):Bool:=match scope.names.lookup x with
 |some .cell=>true
 |_=>false
theorem vC{scope:Scope}{x:Str}:pL scope x=true↔scope.names.lookup x=some .cell:=by
 unfold pL
 split
 ·rename_i h;exact⟨fun _=>h,fun _=>rfl⟩
 ·rename_i h;exact⟨fun z=>(by cases z),fun z=>absurd z h⟩
def blk(X:Cx)(NB:List Str)(scope:Scope)(cl:List (Str×Addr))(C:Addr)(s₃:Shared)(H₃:Hp)(fp:List Addr):Cx:=
 { X with N:=NB,s₀:=s₃,H₀:=H₃,env:=compEnvC scope cl C X.env,outer:=X.stack,stack:=X.stack,ex:=fp,fn:=pL scope,pn:=[],xe:=fun _ _=>False }
theorem jZ{env:Env}:∀ (names:List (Str×NameKind)) (acc:List (Str×Addr)),(∀y∈names,y.2=NameKind.free→∃c,env.cells.lookup y.1=some c)→(∀x c,acc.lookup x=some c→env.cells.lookup x=some c)→
  ∃cl,(forIn names acc fun x r=>(if (x.2==NameKind.free)=true then (do let a ← cellOf env x.1;pure (ForInStep.yield ((x.1,a)::r))) else pure (ForInStep.yield r):Sem (ForInStep (List (Str×Addr)))))=(pure cl:Sem (List (Str×Addr)))∧
   (∀x c,cl.lookup x=some c→env.cells.lookup x=some c)∧(∀x c,acc.lookup x=some c→∃c',cl.lookup x=some c')∧∀x,(x,NameKind.free)∈names→∃c,cl.lookup x=some c
 |[],acc,_,ha=>⟨acc,by rw[List.forIn_nil],ha,fun x c h=>⟨c,h⟩,fun x h=>nomatch h⟩
 |(n,k)::r,acc,hf,ha=>by
  by_cases hk:k=NameKind.free
  ·subst hk
   obtain⟨c,hc⟩:=hf (n,NameKind.free) List.mem_cons_self rfl
   have ha':∀x c',((n,c)::acc).lookup x=some c'→env.cells.lookup x=some c':=fun x c' h=>by
    rw[List.lookup_cons] at h
    cases hx:x==n with
    |true=>
     rw[hx] at h
     cases h
     have:x=n:=by simpa using hx
     rw[this];exact hc
    |false=>rw[hx] at h;exact ha x c' h
   obtain⟨cl,e1,e2,e3,e4⟩:=jZ r ((n,c)::acc) (fun y hy=>hf y (List.mem_cons_of_mem _ hy)) ha'
   refine⟨cl,?_,e2,fun x c' h=>?_,fun x h=>?_⟩
   ·rw[List.forIn_cons]
    have ec:cellOf env n=pure c:=by unfold cellOf;rw[hc]
    have e0:(if ((n,NameKind.free).2==NameKind.free)=true then (do let a ← cellOf env (n,NameKind.free).1;pure (ForInStep.yield (((n,NameKind.free).1,a)::acc))) else pure (ForInStep.yield acc):Sem (ForInStep (List (Str×Addr))))=pure (ForInStep.yield ((n,c)::acc)):=by
     rw[if_pos (show (NameKind.free==NameKind.free)=true by decide)]
     show cellOf env n >>= _=_
     rw[ec];rfl
    rw[e0]
    exact e1
   ·cases hx:x==n with
    |true=>exact e3 x c (by rw[List.lookup_cons,hx])
    |false=>exact e3 x c' (by rw[List.lookup_cons,hx];exact h)
   ·rcases List.mem_cons.mp h with h|h
    ·cases h
     exact e3 n c (by rw[List.lookup_cons];simp)
    ·exact e4 x h
  ·obtain⟨cl,e1,e2,e3,e4⟩:=jZ r acc (fun y hy=>hf y (List.mem_cons_of_mem _ hy)) ha
   refine⟨cl,?_,e2,e3,fun x h=>?_⟩
   ·rw[List.forIn_cons]
    have hb:(k==NameKind.free)=false:=by simpa using hk
    have e0:(if ((n,k).2==NameKind.free)=true then (do let a ← cellOf env (n,k).1;pure (ForInStep.yield (((n,k).1,a)::acc))) else pure (ForInStep.yield acc):Sem (ForInStep (List (Str×Addr))))=pure (ForInStep.yield acc):=by
     rw[if_neg (by show ¬ (k==NameKind.free)=true;rw[hb];decide)]
    rw[e0]
    exact e1
   ·rcases List.mem_cons.mp h with h|h
    ·cases h;exact absurd rfl hk
    ·exact e4 x h
theorem kA{X:Cx}(ok:X.Ok){NB:List Str}{src:List (Option Nat)}{scope:Scope}(S:fQ NB src scope X):
  ∃cl,closureFor scope X.env=pure cl∧(∀x c,cl.lookup x=some c→X.env.cells.lookup x=some c)∧∀x,(x,NameKind.free)∈scope.names→∃c,cl.lookup x=some c:=by
 obtain⟨cl,e1,e2,_,e4⟩:=jZ (env:=X.env) scope.names [] (fun y hy hk=>ok.has y.1 (S.free y hy hk)) (fun x c h=>nomatch h)
 refine⟨cl,?_,e2,e4⟩
 unfold closureFor
 simp only[bind_pure]
 exact e1
theorem sR{scope:Scope}{env:Env}{x:Str}(h:scope.names.lookup x=some .free):(relabel scope env).names.lookup x=some .cell∨(relabel scope env).names.lookup x=some .free:=by
 have go:∀names:List (Str×NameKind),names.lookup x=some .free→
   (names.map fun (n,k)=>if (k==NameKind.free&&env.scope.kind==.function&&env.kindOf n==some .cell) then (n,NameKind.cell) else (n,k)).lookup x=some .cell∨
   (names.map fun (n,k)=>if (k==NameKind.free&&env.scope.kind==.function&&env.kindOf n==some .cell) then (n,NameKind.cell) else (n,k)).lookup x=some .free:=by
  intro names
  induction names with
  |nil=>intro h;simp at h
  |cons y r ih=>
   intro h
   obtain⟨n,k⟩:=y
   rw[List.lookup_cons] at h
   rw[List.map_cons]
   cases hx:x==n with
   |true=>
    rw[hx] at h
    cases h
    by_cases hc:(NameKind.free==NameKind.free&&env.scope.kind==.function&&env.kindOf n==some .cell)=true
    ·left;show List.lookup x ((if _ then _ else _)::_)=_;rw[if_pos hc,List.lookup_cons,hx]
    ·right;show List.lookup x ((if _ then _ else _)::_)=_;rw[if_neg hc,List.lookup_cons,hx]
   |false=>
    rw[hx] at h
    by_cases hc:(k==NameKind.free&&env.scope.kind==.function&&env.kindOf n==some .cell)=true
    ·show List.lookup x ((if _ then _ else _)::_)=_∨List.lookup x ((if _ then _ else _)::_)=_
     rw[if_pos hc,List.lookup_cons,hx];exact ih h
    ·show List.lookup x ((if _ then _ else _)::_)=_∨List.lookup x ((if _ then _ else _)::_)=_
     rw[if_neg hc,List.lookup_cons,hx];exact ih h
 exact go scope.names h
theorem kW{scope:Scope}{env:Env}{x:Str}{k:NameKind}(h:(relabel scope env).names.lookup x=some k)(hk:k=.cell∨k=.free):(x,NameKind.free)∈scope.names∨(x,NameKind.cell)∈scope.names:=by
 have m:=PySem.mem_of_lookup h
 obtain⟨⟨n,k'⟩,hm,e⟩:=List.mem_map.mp m
 by_cases q:(k'==NameKind.free&&env.scope.kind==.function&&env.kindOf n==some .cell)=true
 ·have e':(n,NameKind.cell)=(x,k):=by simpa [q] using e
  have k1:k'=NameKind.free:=by
   simp only[Bool.and_eq_true,beq_iff_eq] at q
   exact q.1.1
  cases e'
  left
  rw[← k1];exact hm
 ·have e':(n,k')=(x,k):=by simpa [q] using e
  cases e'
  rcases hk with z|z
  ·subst z;exact .inr hm
  ·subst z;exact .inl hm
theorem kX:∀ (names:List (Str×NameKind)) (h:Heap) (acc:List (Str×Addr)) (x:Str) (c:Addr),(cellsFrom h.objs.size names acc).lookup x=some c→acc.lookup x=some c∨(h.objs.size≤c∧(pushCells h names).IsCell c none)
 |[],_,_,_,_,e=>.inl e
 |(name,kind)::r,h,acc,x,c,e=>by
  unfold cellsFrom at e
  unfold pushCells
  split at e
  ·rename_i hk
   rw[if_pos hk]
   have hsz:(h.push { cls:=.type "cell",data:=.cell none }).objs.size=h.objs.size+1:=Heap.size_push ..
   rw[← hsz] at e
   rcases kX r _ _ x c e with z|⟨z1,z2⟩
   ·rw[List.lookup_cons] at z
    cases hx:x==name with
    |true=>
     rw[hx] at z
     cases z
     exact .inr ⟨Nat.le_refl _,_,pushCells_keeps r _ _ _ (Heap.get?_push_size _ rfl),rfl⟩
    |false=>rw[hx] at z;exact .inl z
   ·exact .inr ⟨by lia,z2⟩
  ·rename_i hk
   rw[if_neg hk]
   exact kX r h acc x c e
theorem qS:∀ (names:List (Str×NameKind)) (n:Nat) (acc:List (Str×Addr)) (x:Str),(x,NameKind.cell)∈names→∃c,n≤c∧(cellsFrom n names acc).lookup x=some c:=by
 have up:∀ (names:List (Str×NameKind)) (n m:Nat) (acc:List (Str×Addr)) (x:Str) (c:Addr),acc.lookup x=some c→m≤c→m≤n→∃c',m≤c'∧(cellsFrom n names acc).lookup x=some c':=by
  intro names
  induction names with
  |nil=>intro n m acc x c e h _;exact⟨c,h,e⟩
  |cons y r ih=>
   intro n m acc x c e h hm
   obtain⟨name,kind⟩:=y
   unfold cellsFrom
   split
   ·cases hx:x==name with
    |true=>exact ih (n+1) m _ x n (by rw[List.lookup_cons,hx]) hm (by lia)
    |false=>exact ih (n+1) m _ x c (by rw[List.lookup_cons,hx];exact e) h (by lia)
   ·exact ih n m acc x c e h hm
 intro names
 induction names with
 |nil=>intro n acc x h;cases h
 |cons y r ih=>
  intro n acc x h
  obtain⟨name,kind⟩:=y
  unfold cellsFrom
  rcases List.mem_cons.mp h with z|z
  ·cases z
   rw[if_pos (by decide)]
   exact up r (n+1) n _ x n (by rw[List.lookup_cons];simp) (Nat.le_refl _) (by lia)
  ·split
   ·obtain⟨c,h1,h2⟩:=ih (n+1) ((name,n)::acc) x z
    exact⟨c,by lia,h2⟩
   ·exact ih n acc x z
theorem iW:∀ (names:List (Str×NameKind)) (n:Nat) (acc:List (Str×Addr)) (x:Str) (c:Addr),acc.lookup x=some c→(x,NameKind.cell)∉names→(cellsFrom n names acc).lookup x=some c
 |[],_,_,_,_,e,_=>e
 |(name,kind)::r,n,acc,x,c,e,h=>by
  have hr:(x,NameKind.cell)∉r:=fun z=>h (List.mem_cons_of_mem _ z)
  unfold cellsFrom
  split
  ·rename_i hk
   have hne:(x==name)=false:=by
    cases hx:x==name with
    |false=>rfl
    |true=>
     have e1:x=name:=by simpa using hx
     have e2:kind=.cell:=by simpa using hk
     exact absurd (by rw[e1,e2];exact List.mem_cons_self) h
   exact iW r (n+1) _ x c (by rw[List.lookup_cons,hne];exact e) hr
  ·exact iW r n acc x c e hr
theorem kY:∀ (names:List (Str×NameKind)) (n:Nat) (acc:List (Str×Addr)),(∀x y c,acc.lookup x=some c→acc.lookup y=some c→x=y)→(∀x c,acc.lookup x=some c→c<n)→∀x y c,(cellsFrom n names acc).lookup x=some c→(cellsFrom n names acc).lookup y=some c→x=y
 |[],_,_,hi,_=>hi
 |(name,kind)::r,n,acc,hi,hl=>by
  unfold cellsFrom
  split
  ·refine kY r (n+1) _ (fun x y c h1 h2=>?_) (fun x c h=>?_)
   ·rw[List.lookup_cons] at h1 h2
    cases hx:x==name <;> cases hy:y==name <;> rw[hx] at h1 <;> rw[hy] at h2
    ·exact hi x y c h1 h2
    ·cases h2;exact absurd (hl x _ h1) (Nat.lt_irrefl _)
    ·cases h1;exact absurd (hl y _ h2) (Nat.lt_irrefl _)
    ·have e1:x=name:=by simpa using hx
     have e2:y=name:=by simpa using hy
     rw[e1,e2]
   ·rw[List.lookup_cons] at h
    cases hx:x==name <;> rw[hx] at h
    ·exact Nat.lt_succ_of_lt (hl x c h)
    ·cases h;exact Nat.lt_succ_self _
  ·exact kY r n acc hi hl
section
variable {X:Cx} {pins:List (Addr×Obj)} {σ:St} {H:Hp} {s:Shared} {NB:List Str} {src:List (Option Nat)} {scope:Scope} {cl:List (Str×Addr)} {fp:List Addr} {h₁:Heap} {t₁:Nat}
theorem aCO(I:Inv X pins σ H s)(S:fQ NB src scope X)(c1:∀x c,cl.lookup x=some c→X.env.cells.lookup x=some c)(c2:∀x,(x,NameKind.free)∈scope.names→∃c,cl.lookup x=some c)(hf:∀b∈fp,FpOk X pins H b)(hfo:∀b∈fp,b<s.heap.objs.size){m:Str→Option Value}(hn:h₁.Ns s.heap.objs.size m)(hk:∀b o,s.heap.get? b=some o→h₁.get? b=some o)(hnew:∀x c,(cellsFrom (s.heap.objs.size+1) scope.names cl).lookup x=some c→cl.lookup x=some c∨(s.heap.objs.size<c∧h₁.IsCell c none)):
  Inv (blk X NB scope (cellsFrom (s.heap.objs.size+1) scope.names cl) s.heap.objs.size s H fp) [] (cSt src σ) H { s with heap:=h₁,toks:=t₁ }:=by
 have stk:∀b∈frs X.stack,b∈X.env.locals::X.fs:=I.stkSub
 have cellOk:∀x c,cl.lookup x=some c→∃v,s.heap.IsCell c v:=fun x c e=>I.cell x c (c1 x c e)
 have clLt:∀x c,cl.lookup x=some c→c<s.heap.objs.size:=fun x c e=>by obtain⟨v,o,ho,_⟩:=cellOk x c e;exact Heap.lt_size ho
 refine⟨⟨I.ok.mod,S.kind,I.ok.glob,I.ok.blt,Nat.le_refl _,kY _ _ _ (fun x y c e1 e2=>I.ok.inj x y c (c1 x c e1) (c1 y c e2)) (fun x c e=>Nat.lt_succ_of_lt (clLt x c e)),fun x hx=>?_,fun x c z e=>?_,I.ok.hd,I.ok.frames,.inl rfl,fun b hb=>⟨?_,fun x c e=>?_⟩,I.bs,Nat.le_trans I.ok.bsz I.sz,fun b o e hb=>?_,fun b hb=>?_,I.stack,I.stkFree⟩,
  rfl,I.bare,Un.kept hk,⟨m,hn,fun i x v e1 e2 e3=>?_⟩,fun x c e=>?_,I.hok.fresh (Nat.le_refl _),fun x c e=>?_,fun p hp=>absurd (show p∈([]:List (Addr×Obj)) from hp) (by simp),I.hok.kept hk,?_⟩
 ·have both:(x,NameKind.free)∈scope.names∨(x,NameKind.cell)∈scope.names:=by
   rcases hx with hx|hx
   ·exact kW hx (.inl rfl)
   ·exact kW hx (.inr rfl)
  by_cases hc:(x,NameKind.cell)∈scope.names
  ·obtain⟨c,_,e⟩:=qS scope.names (s.heap.objs.size+1) cl x hc
   exact⟨c,e⟩
  ·rcases both with z|z
   ·obtain⟨c,e⟩:=c2 x z
    exact⟨c,iW _ _ _ _ _ e hc⟩
   ·exact absurd z hc
 ·have hm:=PySem.mem_of_lookup (vC.mp z)
  obtain⟨c',h1,h2⟩:=qS scope.names (s.heap.objs.size+1) cl x hm
  have e':(cellsFrom (s.heap.objs.size+1) scope.names cl).lookup x=some c:=e
  rw[h2] at e'
  cases e'
  exact Nat.le_of_succ_le h1
 ·exact Nat.ne_of_lt (hfo b hb)
 ·rcases hnew x c e with z|⟨z,_⟩
  ·exact(hf b hb).2.2.2.2.1 x c (c1 x c z)
  ·exact Nat.ne_of_gt (Nat.lt_trans (hfo b hb) z)
 ·rcases(hf b hb).2.2.2.1 with z|z
  ·exact I.ok.noex b o e z
  ·exact absurd (Nat.lt_of_lt_of_le (Heap.lt_size e) (Nat.le_trans I.ok.bsz z)) (Nat.lt_irrefl _)
 ·intro z
  rcases List.mem_cons.mp (stk b z) with e|e
  ·exact(hf b hb).2.1 e
  ·exact(hf b hb).2.2.1 e
 ·obtain⟨j,hj,hv⟩:=aCN e2
  obtain⟨hN,hF⟩:=S.src i x j e1 hj
  obtain⟨m0,hn0,hl0⟩:=I.loc
  have hmem:=PySem.mem_of_lookup hF
  have kx:=S.free _ hmem rfl
  have vis:Vis X.env.scope x:=by
   rcases kx with z|z
   ·exact .inr (.inl z)
   ·exact .inr (.inr z)
  obtain⟨u,r,l⟩:=hl0 j x v hN hv vis
  refine⟨u,r,.inr ⟨sR hF,?_⟩⟩
  obtain⟨c,hc⟩:=c2 x hmem
  have hnc:(x,NameKind.cell)∉scope.names:=fun z=>by
   have:=S.cells _ z rfl
   rw[hF] at this;cases this
  refine⟨c,iW _ _ _ _ _ hc hnc,?_⟩
  rcases l with ⟨hk',_⟩|⟨_,c',e,z⟩
  ·have hk'':X.env.scope.names.lookup x=some .local:=hk'
   rcases kx with z|z <;> (rw[z] at hk'';cases hk'')
  ·rw[c1 x c hc] at e
   cases e
   obtain⟨o,ho,hd⟩:=z
   exact⟨o,hk _ _ ho,hd⟩
 ·rcases hnew x c e with z|⟨_,z⟩
  ·obtain⟨v,o,ho,hd⟩:=cellOk x c z
   exact⟨v,o,hk _ _ ho,hd⟩
  ·exact⟨none,z⟩
 ·rcases hnew x c e with z|⟨z,_⟩
  ·exact I.freeC x c (c1 x c z)
  ·exact I.hok.fresh (Nat.le_of_lt z)
 ·show (cSt src σ).length=NB.length
  unfold cSt
  rw[List.length_map]
  exact S.len
theorem Inv.unblk{C:Addr}{σB:St}{H':Hp}{s':Shared}(I:Inv X pins σ H s)(J:Inv (blk X NB scope cl C s H fp) [] σB H' s')(hf:∀b∈fp,FpOk X pins H b):Inv X pins σ H' s':=by
 refine I.call' (ch:=fp) J.os J.base J.hok J.bare fun b hb=>?_
 obtain⟨_,f1,_,f3,f4,f5⟩:=hf b hb
 exact⟨f3,f1,f4,f5⟩
end
def PTs(X:Cx)(ifs:List Expr)(t:TT):Prop:=
 ∀ (pins:List (Addr×Obj)) (s:Shared) (σ:St) (H:Hp) (Q:Bool→Hp→Prop),Inv X pins σ H s→t σ H Q→
  wpAny (model X.prog X.w) X.A (forIn ifs true fun c r=>if r=true then do let ok ← isTrue c X.env (eval c X.env);pure (ForInStep.yield ok) else pure (ForInStep.yield r)) (TP X pins σ Q) X.xe s
def tYes:TT:=fun _ H Q=>Q true H
theorem bZ{X:Cx}:PTs X [] tYes:=fun _ _ _ H _ I h=>wpAny_tests_nil ⟨H,I,h⟩
theorem dG{X:Cx}{c:Expr}{t:TT}(h:PT X c t):PTs X [c] t:=fun pins s σ H Q I q=>wpAny_tests_one (h pins s σ H Q I q)
def dN(J:It)(g:TG)(tt:TT)(te:TE)(D:Addr)(fin:Hp→Prop)(σB:St)(H1:Hp):Prop:=
 ∃W:Nat→Nat→St→Hp→Prop,(∃m,W 0 m σB H1)∧∀i m σ H,W i m σ H→(J.stop i H∧fin H)∨(J.go i H∧∀x H',J.yld i H x H'→g x σ H' fun σ2 H2=>tt σ2 H2 fun b H3=>
  if b=true then te σ2 H3 fun v H4=>∃ys,H4 D=some (.lst ys)∧ys.length<sizeLine∧∃m',m'<m∧W (i+1) m' σ2 (upd H4 D (.lst (ys++[v]))) else ∃m',m'<m∧W (i+1) m' σ2 H3)
theorem aAs{B:Cx}{elt tg iter:Expr}{ifs:List Expr}{scope:Scope}{pos:Pos}{J:It}{g:TG}{tt:TT}{te:TE}{D it:Addr}{fp:List Addr}{tn:Nat→Heap→Prop}{fin:Hp→Prop}{R:Result→Shared→Prop}{s:Shared}{σB:St}{H1:Hp}(hx:B.xe=fun _ _=>False)(hc:B.calm=true)(T:Turn B.prog B.w B.K tg J fp it tn)(hg:PG B tg g)(ht:PTs B ifs tt)(he:PE B elt te)(I:Inv B [] σB H1 s)(st:tn 0 s.heap)(hf:∀b∈fp,FpOk B [] H1 b)(hw:dN J g tt te D fin σB H1)(hR:∀σ' H' s',Inv B [] σ' H' s'→fin H'→R (.ok .next) s'):
  codeAny (model B.prog B.w) B.A (.compLoop (.ListComp elt [⟨tg,iter,ifs,0⟩] scope pos) 0 (.ref it) (.ref D) B.env) R s:=by
 obtain⟨W,⟨m0,w0⟩,turn⟩:=hw
 have stat:∀ {H':Hp},(∀b∈fp,H' b=none)→∀b∈fp,FpOk B [] H' b:=fun hn b hb=>⟨hn b hb,(hf b hb).2⟩
 refine codeAny_loop rfl (fun n s'=>∃i σ' H',Inv B [] σ' H' s'∧tn i s'.heap∧(∀b∈fp,H' b=none)∧W i n σ' H') ?_ m0 ⟨0,σB,H1,I,st,fun b hb=>(hf b hb).1,w0⟩
 rintro n s3 ⟨i,σ3,H3,I3,st3,fr3,w3⟩
 show wpAny _ B.A ((compTurn (.ListComp elt [⟨tg,iter,ifs,0⟩] scope pos) 0 (.ref it) (.ref D) B.env).onRaise (fun x=>do noteFrame x B.env;theTreesLotGoes x)) _ _ s3
 refine wpAny_noted ?_
 rw[compTurn_list]
 have nx:∀ {α:Type} {t:Sem α} {Q:α→Shared→Prop} {E':Value→Shared→Prop} {s:Shared},wpAny (model B.prog B.w) B.A t Q B.xe s→wpAny (model B.prog B.w) B.A t Q E' s:=fun h=>
  wpAny_mono h (fun _ _ q=>q) fun _ _ z=>by rw[hx] at z;exact z.elim
 rcases turn i n σ3 H3 w3 with ⟨stop,qn⟩|⟨go,step⟩
 ·refine wpAny_bind (wpAny_standAt (wpAny_bind (thn (T.done B rfl rfl rfl hc i [] s3 σ3 H3 _ I3 (stat fr3) st3 stop) fun r s4 ⟨hr,I4⟩=>?_)))
  subst hr
  exact wpAny_pure (hR σ3 H3 s4 I4 qn)
 ·refine wpAny_bind (wpAny_standAt (wpAny_bind (thn (T.item B rfl rfl rfl hc i [] s3 σ3 H3 _ I3 (stat fr3) st3 go) fun r s4 ⟨u,hr,h4⟩=>?_)))
  subst hr
  refine wpAny_bind (thn h4 fun _ s5 ⟨x,H5,I5,r5,y5,st5,fr5⟩=>?_)
  have I5':=I5.pinned (stat fr5) (T.obj _ _ st5)
  refine wpAny_bind (nx (thn (hg _ s5 σ3 H5 x u _ I5' r5 (step x H5 y5)) fun _ s6 ⟨σ6,H6,I6,q6⟩=>?_))
  have back:∀ {σ7:St} {H7:Hp} {s7:Shared} {m':Nat},Inv B ([]++kQ fp s5.heap) σ7 H7 s7→m'<n→W (i+1) m' σ7 H7→∃m,m<n∧∃i σ' H',Inv B [] σ' H' s7∧tn i s7.heap∧(∀b∈fp,H' b=none)∧W i m σ' H':=fun {σ7 H7 s7 m'} I7 hm w7=>by
   refine⟨m',hm,i+1,σ7,H7,I7.unpinned,T.keep _ _ _ st5 fun b hb o e=>(I7.pin (b,o) (List.mem_append_right _ (List.mem_append_right _ (hG hb e)))).1,fun b hb=>?_,w7⟩
   obtain⟨o,e,d⟩:=T.obj _ _ st5 b hb
   exact(I7.pin (b,o) (List.mem_append_right _ (List.mem_append_right _ (hG hb e)))).2.1
  refine wpAny_bind (nx (thn (ht _ s6 σ6 H6 _ I6 q6) fun ok s7 ⟨H7,I7,q7⟩=>?_))
  cases ok with
  |false=>
   rw[if_neg Bool.false_ne_true] at q7
   obtain⟨m',hm,w7⟩:=q7
   exact wpAny_pure ⟨rfl,back I7 hm w7⟩
  |true=>
   rw[if_pos rfl] at q7
   refine wpAny_bind (wpAny_bind (nx (thn (he _ s7 σ6 H7 _ I7 q7) fun v s8 ⟨y,H8,I8,r8,ys,hD,hl,m',hm,w8⟩=>?_)))
   refine wpAny_bind (nx (thn (cP _ s8 σ6 H8 (.ref D) [y] (.ref D) [v] (fun _ H9=>H9=upd H8 D (.lst (ys++[y]))) I8 rfl (.cons r8 .nil) ⟨D,ys,y,rfl,rfl,hD,hl,rfl⟩) fun _ s9 ⟨_,H9,I9,_,e9⟩=>?_))
   subst e9
   exact wpAny_pure (wpAny_pure ⟨rfl,back I9 hm w8⟩)
end L2
namespace L2
open PySem PySem.Spec PyProof.Rows
theorem sU{M:Model}{A:Around}{E:Value→Shared→Prop}{s:Shared}{scope:Scope}{globals:Addr}{cl:List (Str×Addr)}{qual:Str}{outer:Env}{Q:Env→Shared→Prop}(hQ:Q { scope:=scope,locals:=s.heap.objs.size,globals:=globals,cells:=cellsFrom (s.heap.objs.size+1) scope.names cl,qual:=qual,func:=none,code:=outer.code,frame:=outer.frame,builtins:=outer.builtins }
   { s with heap:=pushCells (s.heap.push { cls:=.type "dict",data:=.dict #[] }) scope.names }):
  wpAny M A (newFunctionEnv scope globals cl [] qual none .none (some outer)) Q E s:=by
 simp only[newFunctionEnv,Option.isSome_some,if_true]
 refine wpAny_bind (wpAny_alloc ?_)
 refine wpAny_bind (wpAny_layCells _ (fun name kind cells=>by cases hkc:kind==NameKind.cell <;> simp[hkc]) _ _ _ _ ?_)
 rw[show ({ s with heap:=s.heap.push { cls:=.type "dict",data:=.dict #[] } }:Shared).heap.objs.size=s.heap.objs.size+1 from Heap.size_push ..]
 refine wpAny_bind ?_
 rw[List.forIn_nil]
 exact wpAny_pure (wpAny_pure hQ)
section
variable {X:Cx} {elt tg iter:Expr} {ifs:List Expr} {scope:Scope} {pos:Pos} {wi:TI} {g:TG} {tt:TT} {te:TE} {NB:List Str} {src:List (Option Nat)}
def yC(src:List (Option Nat))(wi:TI)(g:TG)(tt:TT)(te:TE):TE:=fun σ H Q=>wi σ H fun J H1=>∀D,H1 D=none→dN J g tt te D (fun H'=>Q (.ref D) H') (cSt src σ) (upd H1 D (.lst []))
theorem oF{pins:List (Addr×Obj)}{σ:St}{H2:Hp}{s2:Shared}{J:It}{fp:List Addr}{it:Addr}{tn:Nat→Heap→Prop}{cl:List (Str×Addr)}{fin:Addr→Hp→Prop}{E':Value→Shared→Prop}{RR:Value→Addr→Result→Shared→Prop}(S:fQ NB src scope X)(hc:X.calm=true)(c1:∀x c,cl.lookup x=some c→X.env.cells.lookup x=some c)(c2:∀x,(x,NameKind.free)∈scope.names→∃c,cl.lookup x=some c)(hg:∀cl C s₃ H₃ fp,PG (blk X NB scope cl C s₃ H₃ fp) tg g)(ht:∀cl C s₃ H₃ fp,PTs (blk X NB scope cl C s₃ H₃ fp) ifs tt)(he:∀cl C s₃ H₃ fp,PE (blk X NB scope cl C s₃ H₃ fp) elt te)(I2:Inv X pins σ H2 s2)(T:Turn X.prog X.w X.K tg J fp it tn)(st2:tn 0 s2.heap)(f2:∀b∈fp,FpOk X pins H2 b)(hw:∀D,H2 D=none→dN J g tt te D (fin D) (cSt src σ) (upd H2 D (.lst [])))(hR:∀D C H' s',FpOk X pins H' C→Inv X pins σ H' s'→(∃m,s'.heap.Ns C m)→fin D H'→RR (.ref D) C (.ok .next) s'):
  wpAny (model X.prog X.w) X.A (newList []) (fun acc s₃=>wpAny (model X.prog X.w) X.A (newFunctionEnv scope X.env.globals cl [] X.env.qual none .none (some X.env)) (fun cenv s₄=>
   codeAny (model X.prog X.w) X.A (.compStart (.ListComp elt [⟨tg,iter,ifs,0⟩] scope pos) 0 (.ref it) acc { cenv with scope:=relabel scope X.env }) (RR acc cenv.locals) s₄) E' s₃) E' s2:=by
 refine wpAny_newObj_type (sU ?_)
 have I3:=I2.lnew (ys:=[]) (its:=[]) (t':=s2.toks) .nil (Nat.zero_le _)
 have hD:H2 s2.heap.objs.size=none:=I2.fresh
 have fo:∀b∈fp,b<s2.heap.objs.size:=fun b hb=>by obtain⟨o,e,_⟩:=T.obj _ _ st2 b hb;exact Heap.lt_size e
 have up:∀ {b:Addr},b∈fp→upd H2 s2.heap.objs.size (.lst []) b=H2 b:=fun {b} hb=>aF (Nat.ne_of_lt (fo b hb))
 have f3:∀b∈fp,FpOk X pins (upd H2 s2.heap.objs.size (.lst [])) b:=fun b hb=>⟨by rw[up hb];exact(f2 b hb).1,(f2 b hb).2⟩
 have hsz:(s2.heap.push { cls:=.type "list",data:=.seq ([]:List Value).toArray }).objs.size=s2.heap.objs.size+1:=by rw[Heap.size_push]
 generalize hs3:({ s2 with heap:=s2.heap.push { cls:=.type "list",data:=.seq ([]:List Value).toArray } }:Shared)=s3 at I3 ⊢
 have hh3:s3.heap=s2.heap.push { cls:=.type "list",data:=.seq ([]:List Value).toArray }:=by rw[← hs3]
 have fo3:∀b∈fp,b<s3.heap.objs.size:=fun b hb=>by rw[hh3,hsz];exact Nat.lt_succ_of_lt (fo b hb)
 have hsz3:(s3.heap.push { cls:=.type "dict",data:=.dict #[] }).objs.size=s3.heap.objs.size+1:=Heap.size_push ..
 have hnew:∀x c,(cellsFrom (s3.heap.objs.size+1) scope.names cl).lookup x=some c→cl.lookup x=some c∨(s3.heap.objs.size<c∧(pushCells (s3.heap.push { cls:=.type "dict",data:=.dict #[] }) scope.names).IsCell c none):=fun x c e=>by
  rw[← hsz3] at e
  rcases kX _ _ _ _ _ e with z|⟨z1,z2⟩
  ·exact .inl z
  ·exact .inr ⟨by rw[hsz3] at z1;exact z1,z2⟩
 have hns₁:=(Heap.Ns.new s3.heap (.type "dict")).keeps (pushCells_keeps scope.names _)
 have keep:∀b o,s3.heap.get? b=some o→(pushCells (s3.heap.push { cls:=.type "dict",data:=.dict #[] }) scope.names).get? b=some o:=fun b o e=>pushCells_keeps _ _ b o (Heap.get?_push_of_some _ e)
 generalize hh1:pushCells (s3.heap.push { cls:=.type "dict",data:=.dict #[] }) scope.names=h₁ at hnew hns₁ keep ⊢
 have IB:Inv (blk X NB scope (cellsFrom (s3.heap.objs.size+1) scope.names cl) s3.heap.objs.size s3 (upd H2 s2.heap.objs.size (.lst [])) fp) [] (cSt src σ) (upd H2 s2.heap.objs.size (.lst [])) { s3 with heap:=h₁,toks:=s3.toks }:=
  aCO I3 S c1 c2 f3 fo3 hns₁ keep hnew
 have stB:tn 0 h₁:=T.keep 0 s2.heap h₁ st2 fun b hb o e=>keep b o (by rw[hh3];exact Heap.get?_push_of_some _ e)
 have fB:∀b∈fp,FpOk (blk X NB scope (cellsFrom (s3.heap.objs.size+1) scope.names cl) s3.heap.objs.size s3 (upd H2 s2.heap.objs.size (.lst [])) fp) [] (upd H2 s2.heap.objs.size (.lst [])) b:=fun b hb=>by
  refine⟨(f3 b hb).1,Nat.ne_of_lt (fo3 b hb),fun z=>?_,.inl hb,fun x c e=>(IB.ok.exf b hb).2 x c e,fun p hp=>absurd (show p∈([]:List (Addr×Obj)) from hp) (by simp)⟩
  rcases List.mem_cons.mp (I3.stkSub b z) with e|e
  ·exact(f3 b hb).2.1 e
  ·exact(f3 b hb).2.2.1 e
 have loop:codeAny (model X.prog X.w) X.A (.compLoop (.ListComp elt [⟨tg,iter,ifs,0⟩] scope pos) 0 (.ref it) (.ref s2.heap.objs.size) (compEnvC scope (cellsFrom (s3.heap.objs.size+1) scope.names cl) s3.heap.objs.size X.env)) (RR (.ref s2.heap.objs.size) s3.heap.objs.size)
   { s3 with heap:=h₁,toks:=s3.toks }:=by
  refine aAs (B:=blk X NB scope (cellsFrom (s3.heap.objs.size+1) scope.names cl) s3.heap.objs.size s3 (upd H2 s2.heap.objs.size (.lst [])) fp) rfl hc T (hg _ _ _ _ _) (ht _ _ _ _ _) (he _ _ _ _ _) IB stB fB (hw _ hD) fun σ' H' s' J' q=>?_
  obtain⟨m,hm,_⟩:=J'.loc
  exact hR _ _ H' s' (I3.fpOk (Nat.le_refl _) J'.free) (I3.unblk J' f3) ⟨m,hm⟩ q
 exact codeAny_compStart_list loop (T.self _ 0 _ _ _ stB loop)
theorem bV(S:fQ NB src scope X)(hc:X.calm=true)(hi:PI X tg iter wi)(hg:∀cl C s₃ H₃ fp,PG (blk X NB scope cl C s₃ H₃ fp) tg g)(ht:∀cl C s₃ H₃ fp,PTs (blk X NB scope cl C s₃ H₃ fp) ifs tt)(he:∀cl C s₃ H₃ fp,PE (blk X NB scope cl C s₃ H₃ fp) elt te)(hs:∀x,foldedSetIterable iter X.env x=pure x:=by intro _;rfl):PE X (.ListComp elt [⟨tg,iter,ifs,0⟩] scope pos) (yC src wi g tt te):=by
 intro pins s σ H Q I h
 obtain⟨cl,hcl,c1,c2⟩:=kA I.ok S
 rw[eval_ListComp]
 refine wpAny_comprehension_free (use:=none) (cl:=cl) rfl hs hcl S.kind S.names (thn (hi pins s σ H _ I h) fun v s1 h1=>thn h1 fun itv s2 h2=>?_)
 obtain⟨it,fp,tn,J,H2,e,I2,T,st2,f2,hw⟩:=h2
 subst e
 refine oF (RR:=fun acc C=>compPost (model X.prog X.w) X.A X.xe none (EP X pins σ Q) acc C) S hc c1 c2 hg ht he I2 T st2 f2 hw fun D C H' s' fC I' hm q=>?_
 obtain⟨m,hm⟩:=hm
 refine⟨m,hm,fun h' sb=>⟨.ref D,H',?_,rfl,q⟩⟩
 obtain⟨g0,g1,_,g3,g4,g5⟩:=fC
 exact I'.turned (t':=s'.toks) (fun b o hb e=>(sb.2 b hb).trans e) g0 g1 g3 g4 g5
theorem cM{i:Nat}{y:Str}{py spos:Pos}(S:fQ NB src scope X)(hc:X.calm=true)(hi:PI X tg iter wi)(hg:∀cl C s₃ H₃ fp,PG (blk X NB scope cl C s₃ H₃ fp) tg g)(ht:∀cl C s₃ H₃ fp,PTs (blk X NB scope cl C s₃ H₃ fp) ifs tt)(he:∀cl C s₃ H₃ fp,PE (blk X NB scope cl C s₃ H₃ fp) elt te)(hN:X.N.Nodup)(hix:X.N[i]?=some y)(hy:X.env.scope.names.lookup y=some .local)(hsw:swapsWith (.ListComp elt [⟨tg,iter,ifs,0⟩] scope pos) (some (.Name y py)) spos.line X.env=pure true)(hs:∀x,foldedSetIterable iter X.env x=pure x:=by intro _;rfl):
  PS X (.Assign [.Name y py] (.ListComp elt [⟨tg,iter,ifs,0⟩] scope pos) spos) (tAsg (yC src wi g tt te) (bG i)):=by
 intro pins s σ H D0 I h
 obtain⟨cl,hcl,c1,c2⟩:=kA I.ok S
 rw[exec_Assign_Name_used _ _ _ _ hsw]
 refine wpAny_bind (wpAny_standAt (wpAny_bind ?_))
 show wpAny _ X.A (do let _ ← comprehension (.ListComp elt [⟨tg,iter,ifs,0⟩] scope pos) scope X.env _ (newList []) false (eval iter X.env) (some (assign (.Name y py) X.env))) _ _ s
 refine wpAny_bind (wpAny_mono (wpAny_comprehension_free (use:=some (assign (.Name y py) X.env)) (Q:=fun _ s'=>SP X pins D0 .next s') (cl:=cl) rfl hs hcl S.kind S.names
  (thn (hi pins s σ H _ I h) fun v s1 h1=>thn h1 fun itv s2 h2=>?_)) (fun _ s' hq=>wpAny_pure (wpAny_pure hq)) fun _ _ e=>e)
 obtain⟨it,fp,tn,J,H2,e,I2,T,st2,f2,hw⟩:=h2
 subst e
 refine oF (RR:=fun acc C=>compPost (model X.prog X.w) X.A X.xe (some (assign (.Name y py) X.env)) (fun _ s'=>SP X pins D0 .next s') acc C) S hc c1 c2 hg ht he I2 T st2 f2 hw fun D C H' s' fC I' hm q=>?_
 obtain⟨m,hm⟩:=hm
 obtain⟨g0,g1,_,g3,g4,g5⟩:=fC
 show wpAny _ X.A (assign (.Name y py) X.env (.ref D)) _ _ _
 refine wpAny_assign_Name (qK I' hN hix (.inl hy) (v:=.ref D) rfl (fun s'' I'' sb=>?_) (.inr hy))
 obtain⟨a,sb,ha⟩:=sb
 have hne:C≠a:=by
  rcases ha with z|z
  ·rw[z];exact g1
  ·exact fun z'=>g4 y a z z'.symm
 refine⟨m,hm.sameBut sb hne,fun h' sb'=>⟨_,H',I''.turned (t':=s''.toks) (fun b o hb e=>(sb'.2 b hb).trans e) g0 g1 g3 g4 g5,q⟩⟩
end
end L2
namespace L2
open PySem PySem.Spec PyProof.Rows
section
variable {P:Program} {w:World} {K:PySem.W.Frag} {mg:Str→Option Value} {base:Heap} {N:List Str} {qual:Str} {scope:Scope} {f:Addr} {cd:Value} {A:Around} {outer:List Env} {s:Shared} {H:Hp} {E:XK}
end
end L2
namespace L2
open PySem PySem.Spec PyProof.Rows PySem.W
abbrev bmV:List Value:=[.type "ValueError",.type "Exception",.type "BaseException",.type "object"]
structure ECls(K:PySem.W.Frag)(C:Addr):Prop where
 ex:PySem.W.excIn K C bmV "ValueError.__new__"=true
 kp:PySem.W.keepIn K (.ref C)=true
 ga:PySem.W.findIn K (.ref C) "__getattribute__"=some (some (.builtin "BaseException.__getattribute__"))
 gt:PySem.W.findIn K (.ref C) "__getattr__"=some none
 cl:PySem.W.findIn K (.ref C) "__class__"=some (some (.builtin "object.__class__"))
 mo:PySem.W.mroIn K C (.type "object")=some true
 mb:PySem.W.mroIn K C (.type "BaseException")=some true
 ty:(PySem.W.clsIn K C).isSome=true
def IsX(p:Addr)(C:Value)(h:Heap):Prop:=∃o,h.get? p=some o∧o.cls=C
abbrev excO(p:Addr)(C:Value):HO:=.ext (IsX p C)
theorem bW.get{P:Program}{w:World}{H:Hp}{h:Heap}{a:Addr}{o:HO}(x:bW P w H h a o):∃u,h.get? a=some u:=by
 cases o with
 |lst xs=>obtain⟨_,_,_,_,e⟩:=x;exact⟨_,e⟩
 |tup xs=>obtain⟨_,_,_,ob,e,_⟩:=x;exact⟨_,e⟩
 |dK kvs=>obtain⟨_,_,_,_,o,_,_,e,_⟩:=x;exact⟨_,e⟩
 |dT kvs=>obtain⟨_,_,_,_,o,_,_,e,_⟩:=x;exact⟨_,e⟩
 |set S n=>obtain⟨o,_,_,_,e,_⟩:=x;exact⟨_,e⟩
 |ins C dx fs=>obtain⟨_,_,_,e,_⟩:=x;exact⟨_,e⟩
 |own y=>exact x
 |xd fs=>obtain⟨_,⟨_,_,_,e,_⟩,_⟩:=x;exact⟨_,e⟩
 |rng lo hi=>obtain⟨_,_,_,e⟩:=x;exact⟨_,e⟩
 |frz ob u=>obtain⟨e,_⟩:=x;exact⟨_,e⟩
 |tbl ps=>exact⟨_,(show h.get? a=some _ from x)⟩
 |met f y=>exact⟨_,(show h.get? a=some _ from x)⟩
 |ext φ=>exact x.2.1
theorem HOk.freshN{P:Program}{w:World}{H:Hp}{h:Heap}{a:Addr}(x:HOk P w H h)(e:h.get? a=none):H a=none:=by
 cases q:H a with
 |none=>rfl
 |some u=>obtain⟨o,z⟩:=(x a u q).get;rw[e] at z;cases z
theorem Inv.laidN{X:Cx}{pins:List (Addr×Obj)}{σ:St}{H:Hp}{s:Shared}{h':Heap}{a:Addr}{o:HO}{t':Nat}(I:Inv X pins σ H s)(k:∀b u,s.heap.get? b=some u→h'.get? b=some u)(hp:s.heap.get? a=none)(new:bW X.prog X.w (upd H a o) h' a o):
  Inv X pins σ (upd H a o) { s with heap:=h',toks:=t' }:=by
 have hn:=I.hok.freshN hp
 have ne:∀b u,s.heap.get? b=some u→b≠a:=fun b u e z=>by rw[z,hp] at e;cases e
 refine I.un ⟨fun b u e _ _ _=>k b u e,fun b u e _ _ _=>⟨u.slots,k b u e⟩,fun b u e n _=>by rw[aF (ne b u e)];exact n,fun b u e _=>⟨u,k b u e⟩,fun b xs e=>by rw[aF (aH e hn)];exact e,fun b u v e=>by rw[aF (aH e hn)];exact e,fun b ps e=>⟨#[],by rw[aF (aH e hn),e];simp⟩⟩ fun b u e=>?_
 by_cases hb:b=a
 ·subst hb;rw[aB] at e;cases e;exact new
 ·rw[aF hb] at e
  exact(I.hok b u e).stay (fun c v _ q=>k c v q) (fun c q=>by rw[aF (aH q hn)];exact q) fun c xs q=>by rw[aF (aH q hn)];exact q
section
variable {prog:Program} {w:World} {A:Around} {E:Value→Shared→Prop} {s:Shared} {K:PySem.W.Frag} {x C:Addr} {ox:Obj}
theorem wE{M:Model}{h:Heap}(hx:h.get? x=some ox)(hc:ox.cls=.ref C):PySem.W.Looks M h (typeOf (.ref x)) (.ref C):=hc ▸ (PySem.W.Looks.ld hx).andThen .now
open Builtin Builtin.ObjectAttr Builtin.Getset_descriptor in
theorem yD{tp:Value}{R:Result→Shared→Prop}(X:K.In s.heap)(hx:s.heap.get? x=some ox)(hc:ox.cls=.ref C)(hm:PySem.W.mroIn K C (.type "object")=some true)(h:R (.ok (.ret (.ref C))) s):codeAny (model prog w) A (.call (.builtin "getset_descriptor.__get__") ⟨[.builtin "object.__class__",.ref x,tp],[]⟩) R s:=by
 obtain⟨hh,g,dr,t,os⟩:=s
 have L0:=wE (M:=model prog w) hx hc
 have L1:=looks_mroIn (M:=model prog w) X hm
 refine codeAny_call_builtin KF.slot_gs.plain KF.entry_gs (KF.slot_gs.check _ _ _ _ _ _ _ _ KF.type_class (KF.args_gs _ _ _) ?_)
 unfold Builtin.«getset_descriptor.__get__» descrGet
 rw[dga_obj]
 refine wpAny_bind (wpAny_pure ?_)
 unfold descrGetter descrCheckInstance descrNameAndClass isInstance
 simp only[KF.owner_class]
 repeat lk
 refine⟨Code.quiet_builtin _ (by decide +kernel),codeAny_builtin KF.entry_class ?_⟩
 unfold Builtin.«object.__class__» shownTypeOf
 repeat lk
 exact h
theorem aAt{tk:Tok}{Q:Fin→Shared→Prop}{h:Heap}{g d t os}(T:ECls K C)(X:K.In h)(hx:h.get? x=some ox)(hc:ox.cls=.ref C)(hq:Q (.done (.ret (.ref C))) ⟨h,g,d,t,os⟩):
  wpAny (model prog w) A (Builtin.«object.__getattribute__» ⟨[.ref x,.str "__class__" tk],[]⟩) Q E ⟨h,g,d,t,os⟩:=by
 have f5:=F.typeOf_bexc_args
 have hT5:(⟨h,g,d,t,os⟩:Shared).TypeIs (.builtin "object.__class__") "getset_descriptor":=PySem.F.typeOf_object_class
 have f5':=PySem.F.typeOf_object_class
 have f6:=F.slot_gs_get.lookup
 have f7:=F.slot_gs_set.lookup
 have L1:=looks_findIn (M:=model prog w) X T.cl
 repeat (any_goals (first|assumption|(with_reducible refine wpAny_loadPart_at hx ?_;rw[hc])|with_reducible refine L1.at ?_|wp_step))
 refine yD (s:=⟨h,g,d,t,os⟩) X hx hc T.mo ?_
 repeat (any_goals (first|assumption|wp_step))
theorem aAu{M:Model}{nameV:Value}{Q:Unit→Shared→Prop}{h:Heap}{g d t os}(T:ECls K C)(X:K.In h)(hx:h.get? x=some ox)(hc:ox.cls=.ref C)(hq:Q () ⟨h,g,d,t,os⟩):
  wpAny M A (checkBuiltinCall "BaseException.__getattribute__" ⟨[.ref x,nameV],[]⟩) Q E ⟨h,g,d,t,os⟩:=by
 have hk:builtinKind "BaseException.__getattribute__"=some .slot:=by decide +kernel
 have hsplit:splitId "BaseException.__getattribute__"=some ("BaseException","__getattribute__"):=by decide +kernel
 have ha:=F.args_bexc_ga (.ref x) nameV
 have L1:=looks_mroIn (M:=M) X T.mb
 simp only[checkBuiltinCall,hk,hsplit]
 refine wpAny_bind ?_
 ·unfold isInstance
  repeat (first|(with_reducible refine wpAny_loadPart_at hx ?_;rw[hc])|with_reducible refine L1.at ?_|wp_step)
  exact hq
theorem aDV{tk:Tok}{fill expr:Bool}{Q:Value→Shared→Prop}{h:Heap}{g d t os}(T:ECls K C)(X:K.In h)(hx:h.get? x=some ox)(hc:ox.cls=.ref C)(hq:Q (.ref C) ⟨h,g,d,t,os⟩):
  wpAny (model prog w) A (getAttrBy (.ref x) (.str "__class__" tk) fill expr) Q E ⟨h,g,d,t,os⟩:=by
 have f3:=F.attr_ValueError.ga.bind (.ref x)
 have hx0:(expr&&onTheHeap (Value.builtin "BaseException.__getattribute__"))=false:=by cases expr <;> rfl
 have hx2:(Value.builtin "BaseException.__getattribute__"==Value.builtin "object.__getattribute__")=false:=by decide +kernel
 have hx1:(onTheHeap (Value.ref C)&&Value.builtin "BaseException.__getattribute__"==Value.builtin "object.__getattribute__")=false:=by rw[hx2];rfl
 have L1:=looks_findIn (M:=model prog w) X T.ga
 have L2:=looks_findIn (M:=model prog w) X T.gt
 repeat (any_goals (first|assumption|(with_reducible refine wpAny_loadPart_at hx ?_;rw[hc])|with_reducible refine L1.at ?_|with_reducible refine L2.at ?_|wp_step))
 refine codeAny_call_builtin F.attr_ValueError.ga.plain F.entry_bexc_ga (aAu T X hx hc (aAt T X hx hc ?_))
 repeat (any_goals (first|assumption|wp_step))
theorem aBA{Q:Option Value→Shared→Prop}{h:Heap}{g d t os}(T:ECls K C)(X:K.In h)(hx:h.get? x=some ox)(hc:ox.cls=.ref C)(hq:Q (some (.ref C)) ⟨h,g,d,t+1,os⟩):
  wpAny (model prog w) A (getAttr? (.ref x) "__class__") Q E ⟨h,g,d,t,os⟩:=by
 unfold getAttr?
 repeat (any_goals (first|assumption|with_reducible apply aDV T X hx hc|wp_step))
theorem aBB(T:ECls K C):PySem.W.KitX K (.ref x) (.ref C) (IsX x (.ref C)) where
 ty:=fun _ _ _ ⟨o,e,c⟩=>wE e c
 it:=fun _ _ X _=>by
  obtain⟨cdD,hcD⟩:=Option.isSome_iff_exists.mp T.ty
  unfold clsIn at hcD
  split at hcD
  ·rename_i c' d' cd' sl' ho
   intro A' Q' E' s' k q
   unfold isType loadHead
   exact wpAny_bind (wpAny_loadPart (k _ _ (X _ _ ho)) (wpAny_pure q))
  ·cases hcD
 ne:=fun h tp dd its n sl X htp=>by
  obtain⟨cdD,hcD⟩:=Option.isSome_iff_exists.mp T.ty
  refine Bool.eq_false_iff.mpr fun q=>?_
  have e:C=tp:=Value.ref.inj (beq_iff_eq.mp q)
  subst e
  unfold clsIn at hcD
  split at hcD
  ·rename_i c' d' cd' sl' ho
   have z:=(X _ _ ho).symm.trans htp
   cases z
  ·cases hcD
 ca:=fun {_ _ _ _ _ s} X ⟨o,e,c⟩ k=>by
  obtain⟨h,g,d,t,os⟩:=s
  exact aBA T X e c k
end
section
variable {X:Cx}
inductive TyX (K:PySem.W.Frag) (H:Hp):V→Value→Prop where
 |of {v:V} {t:Value} (h:TyOf K H v t):TyX K H v t
 |exc {p C:Addr} (T:ECls K C) (e:H p=some (excO p (.ref C))):TyX K H (.ref p) (.ref C)
def rIsi(K:PySem.W.Frag):List V→Hp→VK→Prop:=fun xs H Q=>∃x c cv t b,xs=[x,c]∧(c=.ty cv∧PySem.W.kitOne K t (.type cv)=some b)∧TyX K H x t∧Q (.bl b) H
theorem iK:cW X (.builtin "isinstance") (rIsi X.K):=by
 intro pins s σ H xs us Q I r h
 obtain⟨x,c,cv,t,b,rfl,⟨rfl,e⟩,ty,q⟩:=h
 obtain⟨u1,u2,rfl,r1,r2⟩:=r.two
 obtain rfl:u2=Value.type cv:=r2
 cases ty with
 |of ty=>exact aAi I r1 ty e fun tk=>⟨.bl b,H,I.tok tk,rfl,q⟩
 |@exc p C T ea=>
  obtain rfl:u1=Value.ref p:=r1
  have p1:IsX p (.ref C) s.heap:=(I.hok p _ ea).1
  exact PySem.W.kia_one (aBB T) I.kIn p1 e (fun z=>nomatch z) fun tk=>⟨.bl b,H,I.tok tk,rfl,q⟩
end
section
variable {X:Cx} {x:Str} {C:Addr} {np cpos pos:Pos} {e:Expr} {es:List Expr} {t:TA}
end
end L2
namespace L2
open PySem PySem.Spec PyProof.Rows
section
variable {X:Cx} {CX:CXT} {k:Nat} {f C:Addr} {fd:FuncData} {ps:List Str} {sp:Sp} {dvs:List V} {ds:List Value} {E:St→XK} {x m:Str} {p pos apos:Pos} {e o:Expr} {es:List Expr} {ta:TE} {t:TA}
end
section
variable {X:Cx} {CX:CXT} {k:Nat} {f:Addr} {fd:FuncData} {ps:List Str} {sp:Sp} {dvs:List V} {ds:List Value} {E:XK} {x:Str} {p pos:Pos} {e:Expr} {es:List Expr} {t:TA}
end
section
variable {P:Program} {w:World} {K:PySem.W.Frag} {mg:Str→Option Value} {base:Heap}
end
end L2
namespace L2
open PySem PySem.Spec PyProof.Rows
section
variable {X:Cx} {pins:List (Addr×Obj)} {σ:St} {H:Hp} {s:Shared}
end
end L2
namespace L2
open PySem PySem.Spec PyProof.Rows PySem.W
theorem aCP{h:Heap}{a:Addr}{m m':Str→Option Value}(x:h.Ns a m)(y:h.Ns a m'):m=m':=by
 obtain⟨o,es,ep,e,d,_,q⟩:=x
 obtain⟨o',es',ep',e',d',_,q'⟩:=y
 rw[e] at e';cases e'
 rw[d] at d';cases d'
 funext z
 rw[← q z,q' z]
theorem Inv.fromK{X:Cx}{pins:List (Addr×Obj)}{σ:St}{H:Hp}{s:Shared}{h':Heap}{m:Str→Option Value}{D:Addr}{o:HO}{t':Nat}(I:Inv X pins σ H s)(F:Fr X.base X.env.locals s.heap m)(F':Fr X.base X.env.locals h' m)(N':News X.base X.env.locals h' (gK X.base s.heap X.env.locals))(hD:s.heap.get? D=none)(new:bW X.prog X.w (upd H D o) h' D o):Inv X pins σ (upd H D o) { s with heap:=h',toks:=t' }:=by
 have hn:=I.hok.freshN hD
 have ne:∀b u,s.heap.get? b=some u→b≠D:=fun b u e z=>by rw[z,hD] at e;cases e
 have keep:∀b u,b≠X.env.locals→s.heap.get? b=some u→h'.get? b=some u:=fun b u hb e=>by
  cases q:X.base.get? b with
  |some v=>
   have:=I.bk b v q
   rw[e] at this;cases this
   exact F'.keep b _ q
  |none=>exact(N' (b,u) (jB hb q e)).1
 refine I.step (g':=s.gens) (d':=s.drawn) (ch:=[]) (fun _ z=>absurd z (by simp)) (fun b u hb _ _ e _=>keep b u hb e) (fun b u hb _ _ e _=>⟨u.slots,keep b u hb e⟩) (fun b u _ e n=>by rw[aF (ne b u e)];exact n) (fun b u _ e=>?_)
  (fun b xs e=>by rw[aF (aH e hn)];exact e) (fun b u v e=>by rw[aF (aH e hn)];exact e) (fun b ps e=>⟨#[],by rw[aF (aH e hn),e];simp⟩) (fun m1 hm=>by rw[aCP hm F.ns];exact F'.ns) (fun b u e=>?_) I.bare
 ·by_cases hb:b=X.env.locals
  ·obtain⟨o',_,_,q,_⟩:=F'.ns
   exact⟨o',by rw[hb];exact q⟩
  ·exact⟨u,keep b u hb e⟩
 ·by_cases hb:b=D
  ·subst hb;rw[aB] at e;cases e;exact new
  ·rw[aF hb] at e
   refine(I.hok b u e).stay (fun c v hc q=>keep c v ?_ q) (fun c q=>by rw[aF (aH q hn)];exact q) fun c xs q=>by rw[aF (aH q hn)];exact q
   rintro rfl
   rcases hc with z|hc
   ·have f:=I.free;rw[z,e] at f;cases f
   ·rw[I.free] at hc;cases hc
theorem rK{X:Cx}{pins:List (Addr×Obj)}{σ:St}{H:Hp}{s:Shared}{h':Heap}{D:Addr}{o:Obj}(I:Inv X pins σ H s)(N:News X.base X.env.locals h' ((D,o)::gK X.base s.heap X.env.locals))(hlt:∀q∈gK X.base s.heap X.env.locals,q.1<D):s.heap.get? D=none:=by
 cases e:s.heap.get? D with
 |none=>rfl
 |some u=>
  obtain⟨_,n1,n2⟩:=N (D,o) List.mem_cons_self
  exact absurd (hlt (D,u) (jB n1 n2 e)) (Nat.lt_irrefl _)
end L2
namespace L2
open PySem PySem.Spec PyProof.Rows PySem.W
def aAv(K:PySem.W.Frag)(H:Hp)(a:Addr)(y:Int×Int):Prop:=SqT K H a [.int y.1,.int y.2]
section
variable {X:Cx}
theorem yE{pins:List (Addr×Obj)}{σ:St}{H:Hp}{s:Shared}{a:Addr}{y:Int×Int}(I:Inv X pins σ H s)(h:aAv X.K H a y):∃o n t u,s.heap.get? a=some o∧o.cls=.type "tuple"∧o.data=.seq #[.int y.1 t,.int y.2 u] n:=by
 obtain⟨its,r,p,_⟩:=I.tuple h
 obtain⟨u1,u2,rfl,r1,r2⟩:=r.two
 obtain⟨t,rfl⟩:=r1
 obtain⟨t',rfl⟩:=r2
 obtain⟨o,e,c,n,d⟩:=p
 exact⟨o,n,t,t',e,c,d⟩
end
end L2
namespace L2
open PySem PySem.Spec PyProof.Rows PySem.W
def hAt(hs:Array Int)(i:Nat):Int:=(hs[i]?).getD 0
def eO(hs:Array Int)(t:SetTable)(h:Int):Option (Array Int×SetTable):=
 if t.gaveWay then none else
 match t.probe (hAt hs) h (t.probeStart h) with
 |some (.empty j none)=>
  let q:=t.put j
  let hs1:=SetTable.insertAt hs q.2 h
  if q.1.fits hs1.size&&decide (hs1.size≤4096) then
   if q.1.tooFull then
    (match q.1.relaid hs1 (SetTable.grown (hs.size+1)) with
    |some (t2,order)=>
     let hs2:=order.filterMap (hs1[·]?)
     if hs2.size==hs1.size&&t2.fits hs2.size&&decide (SetTable.sizeAbove (SetTable.grown (hs.size+1))≤4096) then some (hs2,t2) else none
    |none=>none)
   else some (hs1,q.1)
  else none
 |_=>none
def oG(led:Bool):List Int→Option (Array Int×SetTable):=fun l=>l.foldlM (fun q h=>eO q.1 q.2 h) (#[],SetTable.fresh 0 0 led)
def fZ(h:Heap)(S:Addr)(hs:Array Int)(t:SetTable):Prop:=∃o es ep,h.get? S=some o∧o.cls=.type "set"∧(o.dict=none∧o.slots=#[])∧o.data=.set es ep t∧es.map (·.1)=hs∧t.fits es.size=true
section
variable {prog:Program} {w:World} {A:Around} {E:Value→Shared→Prop} {s:Shared} {S:Addr}
theorem aDW(es:Array (Int×Value)):(fun i=>(es[i]?.map (·.1)).getD 0)=hAt (es.map (·.1)):=by
 funext i
 unfold hAt
 rw[Array.getElem?_map]
theorem kZ(es:Array (Int×Value))(p:Nat)(x:Int×Value):(SetTable.insertAt es p x).map (·.1)=SetTable.insertAt (es.map (·.1)) p x.1:=by
 unfold SetTable.insertAt
 simp
theorem lA(es:Array (Int×Value))(order:Array Nat):(order.filterMap (es[·]?)).map (·.1)=order.filterMap ((es.map (·.1))[·]?):=by
 apply Array.ext'
 rw[Array.toList_map,Array.toList_filterMap,Array.toList_filterMap,List.map_filterMap]
 congr 1
 funext i
 rw[Array.getElem?_map]
theorem yF{hs:Array Int}{t:SetTable}{h:Int}{x:Value}{j:Nat}{Q:SetFound→Shared→Prop}(hS:fZ s.heap S hs t)(hg:t.gaveWay=false)(hp:t.probe (hAt hs) h (t.probeStart h)=some (.empty j none))(q:Q (.free j false) s):
  wpAny (model prog w) A (setSearch S x h true) Q E s:=by
 obtain⟨o,es,ep,ho,hc,hdi,hd,hm,hf⟩:=hS
 unfold setSearch setSearchFrom
 refine wpAny_bind (wpAny_setState_of ho hd hf ?_)
 dsimp only
 rw[hg,if_neg Bool.false_ne_true]
 have hp':t.probe (fun i=>(es[i]?.map (·.1)).getD 0) h (t.probeStart h)=some (.empty j none):=by rw[aDW,hm];exact hp
 refine wpAny_bind (wpAny_pure ?_)
 erw[hp']
 exact wpAny_pure q
theorem aAw{a:Addr}{o:Obj}{n:Nat}{x y:Int}{t u:Tok}{Q:Bool→Shared→Prop}(ho:s.heap.get? a=some o)(hc:o.cls=.type "tuple")(hd:o.data=.seq #[.int x t,.int y u] n)(q:Q true s):
  wpAny (model prog w) A (hashByValue 8 (.ref a)) Q E s:=by
 have hT:s.TypeIs (.ref a) "tuple":=⟨_,ho,hc⟩
 unfold hashByValue
 refine wpAny_bind (wpAny_specialOf hT PySem.F.slot_tuple_hash.lookup ?_)
 refine wpAny_bind (wpAny_seqItems ho hd ?_)
 refine wpAny_bind ?_
 show wpAny _ _ (forIn #[Value.int x t,Value.int y u] _ _) _ _ s
 rw[← Array.forIn_toList]
 refine wpAny_forIn_list _ (fun rest r s'=>r.1=none∧s'=s∧∀v∈rest,∃z k,v=Value.int z k) _ ?_ ?_ _ _ ⟨rfl,rfl,fun v hv=>?_⟩
 ·rintro v rest r s' ⟨hr,rfl,hall⟩
  obtain⟨z,k,rfl⟩:=hall v List.mem_cons_self
  refine wpAny_bind (wpAny_pure ?_)
  exact wpAny_pure ⟨rfl,rfl,fun u' hu'=>hall u' (List.mem_cons_of_mem _ hu')⟩
 ·rintro⟨r1,r2⟩ s' ⟨hr,rfl,_⟩
  have hr':r1=none:=hr
  subst hr'
  exact wpAny_pure q
 ·rcases List.mem_cons.mp hv with z|z
  ·exact⟨_,_,z⟩
  ·rcases List.mem_cons.mp z with z|z
   ·exact⟨_,_,z⟩
   ·cases z
theorem wF{hs:Array Int}{t t':SetTable}{es':Array (Int×Value)}(hS:fZ s.heap S hs t)(hf:t'.fits es'.size=true)(hz:es'.size≤4096){Q:Unit→Shared→Prop}(q:∀h',Heap.SameBut S s.heap h'→fZ h' S (es'.map (·.1)) t'→Q () { s with heap:=h' }):wpAny (model prog w) A (storeSet S es' t') Q E s:=by
 obtain⟨o,es,ep,ho,hc,hdi,hd,hm,_⟩:=hS
 refine wpAny_storeSet_of ho hd (q _ (Heap.SameBut.update s.heap S (Obj.putSet es' t')) ?_) (Nat.le_trans hz (by decide))
 have g:=Heap.get?_update_self (Obj.putSet es' t') ho (by rw[putSet_of es' t' hd];rfl)
 rw[putSet_of es' t' hd] at g
 exact⟨_,es',ep+1,g,hc,hdi,rfl,rfl,hf⟩
theorem aCQ {hs hs' : Array Int} {t t' : SetTable} {a : Addr} {o : Obj} {n : Nat} {x y : Int} {tx ty : Tok} {Q : Bool → Shared → Prop} (hu : A.units < cLine) (hS : fZ s.heap S hs t) (ho : s.heap.get? a = some o) (hc : o.cls = .type "tuple") (hd : o.data = .seq #[.int x tx, .int y ty] n) (hne : a ≠ S)
    (hst : eO hs t (tupleKeyHash (intKind prog w) [x, y]) = some (hs', t')) (q : ∀ h' tk, Heap.SameBut S s.heap h' → fZ h' S hs' t' → Q true { s with heap := h', toks := tk }) : wpAny (model prog w) A (setAdd S (.ref a)) Q E s := by
  have hk : IsTupleKey (intKind prog w) s.heap [x, y] a := ⟨o, _, n, ho, hc, hd, .cons (intKind_is _ _ _ _) (.cons (intKind_is _ _ _ _) .nil)⟩
  unfold setAdd
  refine wpAny_holding (wpAny_bind (wpAny_pyHash_tuple hu hk ?_))
  generalize htk : s.toks + ([x, y].length + 1) = tk
  generalize hh : tupleKeyHash (intKind prog w) [x, y] = h at hst ⊢
  have hS0 := hS
  obtain ⟨ob, es, ep, hb, hbc, hbd, hbe, hm, hf⟩ := hS
  unfold setAddHashed setAddHashedIn
  refine wpAny_holding (wpAny_bind (wpAny_setState_of (s := { s with toks := tk }) hb hbe hf ?_))
  dsimp only
  have hbs : byScan (.ref a) es = false := by unfold byScan; rfl
  rw [hbs, if_neg Bool.false_ne_true]
  unfold eO at hst
  cases hg : t.gaveWay with
  | true => rw [hg, if_pos rfl] at hst; cases hst
  | false =>
    rw [hg, if_neg Bool.false_ne_true] at hst
    split at hst
    · rename_i j hp
      dsimp only at hst
      split at hst
      · rename_i hfz
        rw [Bool.and_eq_true, decide_eq_true_eq] at hfz
        refine wpAny_bind (yF (s := { s with toks := tk }) hS0 hg hp ?_)
        dsimp only
        refine wpAny_bind (wpAny_setState_of (s := { s with toks := tk }) hb hbe hf ?_)
        dsimp only
        have byv : ∀ {kk : Bool → Sem Bool}, wpAny (model prog w) A (kk true) Q E { s with toks := tk } → wpAny (model prog w) A (if (t.put j).1.plain = true then hashByValue 8 (.ref a) >>= kk else pure true >>= kk) Q E { s with toks := tk } := fun {kk} hP => by
          split
          · exact wpAny_bind (aAw (s := { s with toks := tk }) ho hc hd hP)
          · exact wpAny_bind (wpAny_pure hP)
        refine byv ?_
        simp only [if_true]
        have hsz : (SetTable.insertAt es (t.put j).2 (h, Value.ref a)).size = (SetTable.insertAt hs (t.put j).2 h).size := by
          rw [← hm, ← kZ es (t.put j).2 (h, Value.ref a), Array.size_map]
        refine wpAny_bind (wF (s := { s with toks := tk }) hS0 (by rw [hsz]; exact hfz.1) (by rw [hsz]; exact hfz.2) fun h1 sb1 S1 => ?_)
        rw [kZ, hm] at S1
        split at hst
        · rename_i htf
          rw [show (!false && (t.put j).1.tooFull) = true by rw [htf]; rfl, if_pos rfl]
          split at hst
          · rename_i t2 order hr
            split at hst
            · rename_i hq
              rw [Bool.and_eq_true, Bool.and_eq_true, decide_eq_true_eq, beq_iff_eq] at hq
              obtain ⟨⟨hq1, hq2⟩, hq3⟩ := hq
              cases hst
              have hes : es.size = hs.size := by rw [← hm, Array.size_map]
              refine wpAny_bind ?_
              unfold setRelay
              obtain ⟨o1, es1, ep1, g1, g2, g3, g4, g5, g6⟩ := id S1
              refine wpAny_bind (wpAny_setState_of (s := { s with heap := h1, toks := tk }) g1 g4 g6 ?_)
              dsimp only
              rw [hes]
              rw [if_neg (by have h4 : (4096 : Nat) ≤ sizeLine := by decide
                             lia)]
              refine wpAny_bind ?_
              rw [g5, hr]
              have hsz2 : (order.filterMap (es1[·]?)).size = es1.size := by
                have e1 := congrArg Array.size (lA es1 order)
                rw [Array.size_map, g5] at e1
                rw [e1, hq1, ← g5, Array.size_map]
              refine wpAny_of_eq (show _ = (pure (order.filterMap (es1[·]?), t') : Sem (Array (Int × Value) × SetTable)) from ?_) ?_
              · show (do
                  let es' := order.filterMap (es1[·]?)
                  if es'.size != es1.size then unsupported "internal:set-table-lost-an-element"
                  pure (es', t') : Sem (Array (Int × Value) × SetTable)) = _
                simp [hsz2]
              dsimp only
              have hle : es1.size ≤ 4096 := by
                have e1 := congrArg Array.size g5
                rw [Array.size_map] at e1
                rw [e1]
                exact hfz.2
              have hfm : (order.filterMap (es1[·]?)).size = (order.filterMap ((SetTable.insertAt hs (t.put j).2 h)[·]?)).size := by
                have e1 := congrArg Array.size (lA es1 order)
                rw [Array.size_map, g5] at e1
                exact e1
              refine wF (s := { s with heap := h1, toks := tk }) S1 (by rw [hfm]; exact hq2) (by rw [hsz2]; exact hle) fun h2 sb2 S2 => ?_
              rw [lA, g5] at S2
              exact wpAny_pure (q h2 tk (sb1.trans sb2) S2)
            · cases hst
          · cases hst
        · rename_i htf
          cases hst
          have htf' : (t.put j).1.tooFull = false := by simpa using htf
          rw [show (!false && (t.put j).1.tooFull) = false by rw [htf']; rfl, if_neg Bool.false_ne_true]
          exact wpAny_pure (q h1 tk sb1 S1)
      · cases hst
    · cases hst
end
end L2
namespace L2
open PySem PySem.Spec PyProof.Rows PySem.W
section
variable {prog:Program} {w:World} {A:Around} {E:Value→Shared→Prop} {s:Shared} {S Ia l:Addr} {R:Result→Shared→Prop}
def gL(h:Heap)(vs:List Value)(ys:List (Int×Int)):Prop:=vs.length=ys.length∧∀i v,vs[i]?=some v→∃a o n t u,v=.ref a∧h.get? a=some o∧o.cls=.type "tuple"∧o.data=.seq #[.int (ys.getD i (0,0)).1 t,.int (ys.getD i (0,0)).2 u] n
theorem gL.keeps{h h':Heap}{vs:List Value}{ys:List (Int×Int)}(p:gL h vs ys)(k:∀b o,(∃xs n,o.data=.seq xs n)→h.get? b=some o→h'.get? b=some o):gL h' vs ys:=
 ⟨p.1,fun i v e=>let ⟨a,o,n,t,u,e1,e2,c,d⟩:=p.2 i v e;⟨a,o,n,t,u,e1,k a o ⟨_,_,d⟩ e2,c,d⟩⟩
def eC(prog:Program)(w:World)(y:Int×Int):Int:=tupleKeyHash (intKind prog w) [y.1,y.2]
theorem aBC{vs:List Value}{ys:List (Int×Int)}{hsN:Array Int}{tN:SetTable}(hh:A.handled=none)(hu:A.units+1<cLine)(hlS:l≠S)(hlI:l≠Ia)(hSI:S≠Ia):
  ∀ (k i:Nat) (s:Shared) (hs:Array Int) (t:SetTable),vs.length-i=k→i≤vs.length→s.heap.IsListIter Ia l i→s.heap.IsList l vs.toArray→gL s.heap vs ys→fZ s.heap S hs t→
   ((ys.drop i).map (eC prog w)).foldlM (fun q h=>eO q.1 q.2 h) (hs,t)=some (hsN,tN)→
   (∀h' tk,(∀b o,b≠S→b≠Ia→s.heap.get? b=some o→h'.get? b=some o)→fZ h' S hsN tN→R (.ok (.ret .none)) { s with heap:=h',toks:=tk })→
   codeAny (model prog w) A (.builtin "set.update.loop" ⟨[.ref S,.ref Ia],[]⟩) R s:=by
 intro k
 induction k with
 |zero=>
  intro i s hs t hk hi hit hl hp hS hf hR
  have e:i=vs.length:=by lia
  refine codeAny_builtin PyProof.Rows.F.entry_set_update_loop ?_
  rw[Around.under_plainId PyProof.Rows.F.plain_set_update_loop _]
  show wpAny _ A.in1 (pyNext (.ref Ia) >>= _) _ _ s
  refine wpAny_bind (wpAny_pyNext_list_end (show A.in1.handled=none from hh) hit hl (by simp;lia) fun h' eb=>?_)
  show wpAny _ A.in1 (ret Value.none) _ _ _
  have hd:ys.drop i=[]:=by rw[List.drop_eq_nil_iff];have:=hp.1;lia
  rw[hd] at hf
  cases hf
  obtain⟨o,es,ep,q1,q2⟩:=hS
  exact wpAny_pure (hR h' s.toks (fun b o hb hbI e=>eb b o hbI e) ⟨o,es,ep,eb S o hSI q1,q2⟩)
 |succ k ih=>
  intro i s hs t hk hi hit hl hp hS hf hR
  have hlt:i<vs.length:=by lia
  refine codeAny_builtin PyProof.Rows.F.entry_set_update_loop ?_
  rw[Around.under_plainId PyProof.Rows.F.plain_set_update_loop _]
  show wpAny _ A.in1 (pyNext (.ref Ia) >>= _) _ _ s
  have hv:vs[i]?=some vs[i]:=List.getElem?_eq_getElem hlt
  refine wpAny_bind (wpAny_pyNext_list_item hit hl (x:=vs[i]) (by simpa using hv) fun h1 hit1 sb1=>?_)
  obtain⟨a,o,n,tx,ty,ea,eo,ec,ed⟩:=hp.2 i _ hv
  rw[ea]
  have neI:∀b ob,(∃xs n,ob.data=.seq xs n)→s.heap.get? b=some ob→b≠Ia:=fun b ob ⟨xs,m,z⟩ e z'=>by
   obtain⟨oi,e1,_,d1⟩:=hit
   rw[z',e1] at e;cases e
   rw[d1] at z;cases z
  have hp1:gL h1 vs ys:=hp.keeps fun b ob hb e=>(sb1.2 b (neI b ob hb e)).trans e
  have hS1:fZ h1 S hs t:=by
   obtain⟨oS,es,ep,q1,q2⟩:=hS
   exact⟨oS,es,ep,(sb1.2 S hSI).trans q1,q2⟩
  have hl1:h1.IsList l vs.toArray:=by
   obtain⟨ol,q1,q2⟩:=hl
   exact⟨ol,(sb1.2 l hlI).trans q1,q2⟩
  have eo1:h1.get? a=some o:=(sb1.2 a (neI a o ⟨_,_,ed⟩ eo)).trans eo
  have neS:∀b ob,(∃xs n,ob.data=.seq xs n)→h1.get? b=some ob→b≠S:=fun b ob ⟨xs,m,z⟩ e z'=>by
   obtain⟨oS,es,ep,q1,_,_,q4,_⟩:=hS1
   rw[z',q1] at e;cases e
   rw[q4] at z;cases z
  have hi2:i<ys.length:=by have:=hp.1;lia
  have hdr:ys.drop i=ys[i]::ys.drop (i+1):=List.drop_eq_getElem_cons hi2
  have hgy:ys.getD i (0,0)=ys[i]:=by rw[List.getD_eq_getElem?_getD,List.getElem?_eq_getElem hi2];rfl
  rw[hdr,List.map_cons,List.foldlM_cons] at hf
  cases hst:eO hs t (eC prog w ys[i]) with
  |none=>rw[hst] at hf;cases hf
  |some q=>
   obtain⟨hs2,t2⟩:=q
   rw[hst] at hf
   have hf2:((ys.drop (i+1)).map (eC prog w)).foldlM (fun q h=>eO q.1 q.2 h) (hs2,t2)=some (hsN,tN):=hf
   show wpAny _ A.in1 (holding [Value.ref a] (setAdd S (.ref a)) >>= _) _ _ _
   refine wpAny_bind (wpAny_holding (aCQ (s:={ s with heap:=h1 }) (by show A.units+1<cLine;exact hu) hS1 eo1 ec ed (neS a o ⟨_,_,ed⟩ eo1) (hs':=hs2) (t':=t2) (by rw[hgy];exact hst) fun h2 tk sb2 S2=>?_))
   refine wpAny_pure ⟨plainId_quiet PyProof.Rows.F.plain_set_update_loop _,?_⟩
   refine ih (i+1) { s with heap:=h2,toks:=tk } hs2 t2 (by lia) hlt ?_ ?_ (hp1.keeps fun b ob hb e=>(sb2.2 b (neS b ob hb e)).trans e) S2 hf2 fun h3 tk3 k3 S3=>?_
   ·obtain⟨oi,q1,q2⟩:=hit1
    exact⟨oi,(sb2.2 Ia (Ne.symm hSI)).trans q1,q2⟩
   ·obtain⟨ol,q1,q2⟩:=hl1
    exact⟨ol,(sb2.2 l hlS).trans q1,q2⟩
   ·exact hR h3 tk3 (fun b ob hb hbI e=>k3 b ob hb hbI ((sb2.2 b hb).trans ((sb1.2 b hbI).trans e))) S3
theorem aBD{vs:List Value}{ys:List (Int×Int)}{hsN:Bool→Array Int}{tN:Bool→SetTable}{Q:Value→Shared→Prop}(hh:A.handled=none)(hu:A.units+8<cLine)(hl:s.heap.IsList l vs.toArray)(hp:gL s.heap vs ys)(hrun:∀led,oG led (ys.map (eC prog w))=some (hsN led,tN led))(h:∀ (led:Bool) (h':Heap) (tk:Nat),fZ h' s.heap.objs.size (hsN led) (tN led)→(∀b o,b<s.heap.objs.size→s.heap.get? b=some o→h'.get? b=some o)→Q (.ref s.heap.objs.size) { s with heap:=h',toks:=tk }):
  wpAny (model prog w) A (call (.type "set") [.ref l]) Q E s:=by
 obtain⟨c,tl,hmro⟩:=PySem.F.called_set.mro
 have c1:=PySem.F.called_set.made
 have c2:=PySem.F.called_set.sub
 refine wpAny_call (codeAny_of_tree ?_)
 show wpAny _ _ (callAny (.type "set") _) _ _ _
 refine wpAny_pure ⟨Code.quiet_builtin _ (by decide +kernel),codeAny_builtin PySem.F.entry_type_call ?_⟩
 rw[Around.under_plain (weight_type_call_type "set" [.ref l] []) rfl]
 have c3:=PySem.F.called_set.notType
 have c4:=PySem.F.called_set.canCreate
 have c5:=PySem.F.typeCall_set_1 (.ref l)
 repeat (any_goals (first|assumption|wp_step))
 refine codeAny_mono (code_set_new_1 (.ref l) (E:=E) (Q₁:=fun obj s₁=>∃led:Bool,obj=.ref s.heap.objs.size∧s₁={ s with heap:=s.heap.push { cls:=.type "set",dict:=none,data:=.set #[] 0 (.fresh 0 0 led) } }) fun led=>⟨led,rfl,rfl⟩) fun r s₁ hr=>?_
 cases r with
 |error e=>exact hr
 |ok fl=>
  cases fl with
  |next=>exact hr.elim
  |brk=>exact hr.elim
  |cont=>exact hr.elim
  |ret obj=>
   obtain⟨led,rfl,rfl⟩:=hr
   generalize hpu:s.heap.push { cls:=.type "set",dict:=none,data:=.set #[] 0 (.fresh 0 0 led) }=hS
   have hsz:hS.objs.size=s.heap.objs.size+1:=by rw[← hpu,Heap.size_push]
   have gS:hS.get? s.heap.objs.size=some { cls:=.type "set",dict:=none,data:=.set #[] 0 (.fresh 0 0 led) }:=by rw[← hpu];exact Heap.get?_push_size _ rfl
   have up:∀b o,s.heap.get? b=some o→hS.get? b=some o:=fun b o e=>by rw[← hpu];exact Heap.get?_push_of_some _ e
   have hT:Shared.TypeIs { s with heap:=hS } (.ref s.heap.objs.size) "set":=⟨_,gS,rfl⟩
   have c6:=PySem.F.called_set.init.lookup
   have c7:=PySem.F.called_set.init.bind (.ref s.heap.objs.size)
   repeat (any_goals (first|assumption|wp_step))
   refine codeAny_mono (codeAny_call_builtin (R:=wants (fun r s₂=>r=.none∧∃h' tk,s₂={ s with heap:=h',toks:=tk }∧fZ h' s.heap.objs.size (hsN led) (tN led)∧
     (∀b o,b<s.heap.objs.size→s.heap.get? b=some o→h'.get? b=some o)) E) PySem.F.called_set.init.plain PySem.F.entry_set_init (check_set_init_1 hT ?_)) fun r₂ s₂ hr₂=>?_
   ·obtain⟨ol,hol,hcl,nl,hdl⟩:=hl
    obtain⟨ocls,odict,odata,oslots⟩:=ol
    simp only at hcl hdl
    subst hcl;subst hdl
    have hol':=up _ _ hol
    have c8:=PySem.F.sub_list_set
    have c9:=PySem.F.sub_list_frozenset
    have c10:(Value.type "list"==Value.type "dict")=false:=by decide
    have hl1:hS.IsList l vs.toArray:=⟨_,hol',rfl,nl,rfl⟩
    unfold Builtin.«set.__init__» noKeywords Builtin.Frozenset.updateFrom
    generalize hPI:pyIter=PI
    wp_walk
    subst hPI
    refine wpAny_pyIter_list hl1 ?_
    refine wpAny_bind (wpAny_runValue ?_)
    have hlt:l<s.heap.objs.size:=Heap.lt_size hol
    refine aBC (l:=l) (vs:=vs) (ys:=ys) (hsN:=hsN led) (tN:=tN led) (by simp[hh]) (by simp;lia) (Nat.ne_of_lt hlt) (by rw[hsz];exact Nat.ne_of_lt (Nat.lt_succ_of_lt hlt)) (by rw[hsz];exact Nat.ne_of_lt (Nat.lt_succ_self _))
     (vs.length-0) 0 _ #[] (.fresh 0 0 led) rfl (Nat.zero_le _) ⟨_,Heap.get?_push_size _ rfl,rfl,rfl⟩ (hl1.push _) (hp.keeps fun b o _ e=>Heap.get?_push_of_some _ (up b o e)) ⟨_,#[],0,Heap.get?_push_of_some _ gS,rfl,⟨rfl,rfl⟩,rfl,by simp,rfl⟩ (hrun led) fun h' tk k S'=>?_
    show wpAny _ _ _ _ _ _
    refine wpAny_pure ?_
    show wpAny _ _ (ret Value.none) _ _ _
    refine wpAny_pure ⟨rfl,h',tk,rfl,S',fun b o hb e=>?_⟩
    exact k b o (Nat.ne_of_lt hb) (by rw[hsz];exact Nat.ne_of_lt (Nat.lt_succ_of_lt hb)) (Heap.get?_push_of_some _ (up b o e))
   ·cases r₂ with
    |error e=>exact hr₂
    |ok fl₂=>
     cases fl₂ with
     |next=>exact hr₂.elim
     |brk=>exact hr₂.elim
     |cont=>exact hr₂.elim
     |ret r=>
      obtain⟨rfl,h',tk,rfl,S',k⟩:=hr₂
      repeat (any_goals (first|assumption|wp_step))
      exact h led h' tk S' k
end
end L2
namespace L2
open PySem
def aAx(l:List Nat):Nat:=l.foldl (fun a x=>a ||| (1 <<< x)) 0
theorem aAy(l:List Nat)(a j:Nat):(l.foldl (fun a x=>a ||| (1 <<< x)) a).testBit j=(a.testBit j||l.contains j):=by
 induction l generalizing a with
 |nil=>simp
 |cons x xs ih=>
  rw[List.foldl_cons,ih,Nat.testBit_or,List.contains_cons]
  have:(1 <<< x).testBit j=(j==x):=by
   rw[Nat.one_shiftLeft,Nat.testBit_two_pow]
   by_cases h:x=j
   ·simp[h]
   ·have h':¬ j=x:=fun e=>h e.symm
    simp[h,h']
  rw[this,Bool.or_assoc]
theorem mS{l:List Nat}{n j:Nat}(h:aAx l=2 ^ n-1)(hj:j<n):j∈l:=by
 have e:=aAy l 0 j
 have h':l.foldl (fun a x=>a ||| (1 <<< x)) 0=2 ^ n-1:=h
 rw[h',Nat.testBit_two_pow_sub_one] at e
 simp[hj] at e
 exact e
def orb(M:Nat):Nat→Nat→Nat
 |0,i=>i
 |n+1,i=>orb M n ((i*5+1) % M)
theorem lZ(M a:Nat):∀b i,orb M (b+a) i=orb M a (orb M b i)
 |0,i=>by rw[Nat.zero_add];rfl
 |b+1,i=>by
  rw[show b+1+a=(b+a)+1 by lia]
  show orb M (b+a) _=orb M a (orb M b _)
  exact lZ M a b _
def orbL(M:Nat):Nat→Nat→List Nat
 |0,_=>[]
 |n+1,i=>i::orbL M n ((i*5+1) % M)
theorem nB{M j:Nat}:∀ {n i},j∈orbL M n i→∃k,k<n∧orb M k i=j
 |0,_,h=>by cases h
 |n+1,i,h=>by
  rcases List.mem_cons.mp h with z|z
  ·exact⟨0,by lia,z.symm⟩
  ·obtain⟨k,a,b⟩:=nB z
   exact⟨k+1,by lia,b⟩
structure Rnd(M:Nat):Prop where
 all:aAx (orbL M M 0)=2 ^ M-1
 back:orb M M 0=0
theorem rnd8:Rnd 8:=⟨by decide +kernel,by decide +kernel⟩
theorem aCp:Rnd 32:=⟨by decide +kernel,by decide +kernel⟩
theorem aAz:Rnd 128:=⟨by decide +kernel,by decide +kernel⟩
theorem aAA:Rnd 512:=⟨by decide +kernel,by decide +kernel⟩
theorem Rnd.cover{M:Nat}(R:Rnd M){i j:Nat}(hi:i<M)(hj:j<M):∃n,n<M∧orb M n i=j:=by
 obtain⟨a,ha,ea⟩:=nB (mS R.all hi)
 obtain⟨b,hb,eb⟩:=nB (mS R.all hj)
 by_cases h:a≤b
 ·refine⟨b-a,by lia,?_⟩
  rw[← ea,← lZ,show a+(b-a)=b by lia,eb]
 ·refine⟨M+b-a,by lia,?_⟩
  rw[← ea,← lZ,show a+(M+b-a)=M+b by lia,lZ,R.back,eb]
def dW(mask:Nat):Nat→Nat×Nat→Nat×Nat
 |0,q=>q
 |n+1,q=>dW mask n (SetTable.leap mask q.1 q.2)
theorem qT(m a:Nat):∀b q,dW m (b+a) q=dW m a (dW m b q)
 |0,q=>by rw[Nat.zero_add];rfl
 |b+1,q=>by
  rw[show b+1+a=(b+a)+1 by lia]
  exact qT m a b _
theorem sV{m:Nat}:∀ {n:Nat} {q:Nat×Nat},q.1<m+1→(dW m n q).1<m+1
 |0,_,h=>h
 |n+1,q,h=>sV (n:=n) (Nat.mod_lt _ (Nat.succ_pos _))
theorem wG{m:Nat}:∀ {n:Nat} {q:Nat×Nat},(dW m n q).2=q.2 / 32 ^ n
 |0,_=>by simp[dW]
 |n+1,q=>by
  show (dW m n _).2=_
  rw[wG]
  show q.2 / 32 / 32 ^ n=_
  rw[Nat.div_div_eq_div_mul,Nat.pow_succ,Nat.mul_comm]
theorem qU{m:Nat}:∀ {n i:Nat},dW m n (i,0)=(orb (m+1) n i,0)
 |0,_=>rfl
 |n+1,i=>by
  show dW m n (SetTable.leap m i 0)=_
  unfold SetTable.leap
  simp only[Nat.zero_div,Nat.add_zero]
  exact qU
theorem mT{m:Nat}(R:Rnd (m+1)){i p j:Nat}(hi:i<m+1)(hp:p<2 ^ 64)(hj:j<m+1):∃n,n<m+14∧(dW m n (i,p)).1=j:=by
 have h1:=sV (m:=m) (n:=13) (q:=(i,p)) hi
 have h2:(dW m 13 (i,p)).2=0:=by
  rw[wG]
  exact Nat.div_eq_of_lt (Nat.lt_of_lt_of_le hp (by decide))
 obtain⟨n,hn,e⟩:=R.cover h1 hj
 refine⟨13+n,by lia,?_⟩
 rw[qT]
 have:dW m 13 (i,p)=((dW m 13 (i,p)).1,0):=Prod.ext rfl h2
 rw[this,qU]
 exact e
theorem wH(h:Int):SetTable.bits h<2 ^ 64:=by
 unfold SetTable.bits
 have a:=Int.emod_nonneg h (show (2 ^ 64:Int)≠0 by decide)
 have b:=Int.emod_lt_of_pos h (show (0:Int)<2 ^ 64 by decide)
 lia
theorem aEE{M:Nat}{l:List Nat}(h:l.length<M):∃j,j<M∧j∉l:=by
 have key:∀ (a b:List Nat),a.Nodup→(∀x∈a,x∈b)→a.length≤b.length:=by
  intro a
  induction a with
  |nil=>intro b _ _;exact Nat.zero_le _
  |cons x xs ih=>
   intro b hn hs
   obtain⟨h1,h2⟩:=List.nodup_cons.mp hn
   have hx:x∈b:=hs x List.mem_cons_self
   have:=ih (b.erase x) h2 fun y hy=>(List.mem_erase_of_ne (fun (e:y=x)=>h1 (e ▸ hy))).mpr (hs y (List.mem_cons_of_mem _ hy))
   rw[List.length_erase_of_mem hx] at this
   have:0<b.length:=List.length_pos_of_mem hx
   rw[List.length_cons]
   lia
 apply Classical.byContradiction
 intro hno
 have:=key (List.range M) l List.nodup_range fun x hx=>Classical.byContradiction fun hx'=>hno ⟨x,List.mem_range.mp hx,hx'⟩
 rw[List.length_range] at this
 lia
def sW(mask i p:Nat):SetTable.Probe:={ j:=i,more:=SetTable.runEnd mask i-i,i:=i,perturb:=p,dummy:=none }
theorem aDX(mask i:Nat):SetTable.runEnd mask i-i≤9:=by unfold SetTable.runEnd;split <;> lia
theorem pM{t:SetTable}(hd:t.dummies=#[])(j:Nat):t.slot j=.empty∨∃i,t.slot j=.live i∧t.place[i]?=some j:=by
 unfold SetTable.slot
 dsimp only
 split
 ·rename_i h
  exact .inr ⟨_,rfl,by simpa using h⟩
 ·left
  rw[hd]
  rfl
theorem yG{t:SetTable}(hd:t.dummies=#[]){j:Nat}(h:j∉t.place.toList):t.slot j=.empty:=by
 rcases pM hd j with e|⟨i,_,e2⟩
 ·exact e
 ·exact absurd (by rw[← Array.getElem?_toList] at e2;exact List.mem_of_getElem? e2) h
section
variable {t:SetTable} {hashAt:Nat→Int} {h:Int}
theorem aAB(hd:t.dummies=#[])(hh:∀i,i<t.place.size→hashAt i≠h)(i p:Nat):∀ (r:Nat) (j fuel:Nat),
  (∃j',SetTable.probe.go t hashAt h (fuel+r+1) { j:=j,more:=r,i:=i,perturb:=p,dummy:=none }=some (.empty j' none))∨
  SetTable.probe.go t hashAt h (fuel+r+1) { j:=j,more:=r,i:=i,perturb:=p,dummy:=none }=SetTable.probe.go t hashAt h fuel (sW t.mask (SetTable.leap t.mask i p).1 (SetTable.leap t.mask i p).2)
 |0,j,fuel=>by
  rcases pM hd j with e|⟨k,e,e2⟩
  ·exact .inl ⟨j,by unfold SetTable.probe.go;rw[e]⟩
  ·right
   have hk:k<t.place.size:=(Array.getElem?_eq_some_iff.mp e2).1
   conv=>lhs;unfold SetTable.probe.go
   rw[e]
   simp only[beq_iff_eq,hh k hk,if_false]
   rfl
 |r+1,j,fuel=>by
  rcases pM hd j with e|⟨k,e,e2⟩
  ·exact .inl ⟨j,by rw[show fuel+(r+1)+1=(fuel+r+1)+1 by lia];unfold SetTable.probe.go;rw[e]⟩
  ·have hk:k<t.place.size:=(Array.getElem?_eq_some_iff.mp e2).1
   have st:SetTable.probe.go t hashAt h (fuel+(r+1)+1) { j:=j,more:=r+1,i:=i,perturb:=p,dummy:=none }=SetTable.probe.go t hashAt h (fuel+r+1) { j:=j+1,more:=r,i:=i,perturb:=p,dummy:=none }:=by
    rw[show fuel+(r+1)+1=(fuel+r+1)+1 by lia]
    conv=>lhs;unfold SetTable.probe.go
    rw[e]
    simp only[beq_iff_eq,hh k hk,if_false]
    rfl
   rw[st]
   exact aAB hd hh i p r (j+1) fuel
theorem wI(hd:t.dummies=#[])(hh:∀i,i<t.place.size→hashAt i≠h):∀ (m:Nat) (i p fuel:Nat),10*(m+1)≤fuel→t.slot (dW t.mask m (i,p)).1=.empty→
  ∃j',SetTable.probe.go t hashAt h fuel (sW t.mask i p)=some (.empty j' none)
 |0,i,p,fuel,hf,e=>by
  obtain⟨f,rfl⟩:∃f,fuel=f+1:=⟨fuel-1,by lia⟩
  refine⟨i,?_⟩
  have e':t.slot i=.empty:=e
  unfold SetTable.probe.go sW
  dsimp only
  rw[e']
 |m+1,i,p,fuel,hf,e=>by
  have hr:=aDX t.mask i
  obtain⟨f,hf'⟩:∃f,fuel=f+(SetTable.runEnd t.mask i-i)+1:=⟨fuel-(SetTable.runEnd t.mask i-i)-1,by lia⟩
  rcases aAB (hashAt:=hashAt) (h:=h) hd hh i p (SetTable.runEnd t.mask i-i) i f with z|z
  ·rw[hf'];exact z
  ·rw[hf']
   show ∃j',SetTable.probe.go t hashAt h _ { j:=i,more:=_,i:=i,perturb:=p,dummy:=none }=_
   rw[z]
   exact wI hd hh m _ _ f (by lia) e
theorem yH(R:Rnd (t.mask+1))(hd:t.dummies=#[])(hs:t.place.size≤t.mask)(hh:∀i,i<t.place.size→hashAt i≠h):∃j,t.probe hashAt h (t.probeStart h)=some (.empty j none):=by
 obtain⟨j,hj,hn⟩:=aEE (M:=t.mask+1) (l:=t.place.toList) (by simpa using Nat.lt_succ_of_le hs)
 obtain⟨m,hm,e⟩:=mT R (Nat.mod_lt (SetTable.bits h) (Nat.succ_pos t.mask)) (wH h) hj
 refine wI hd hh m _ _ _ ?_ (by rw[e];exact yG hd hn)
 unfold SetTable.turns
 lia
end
theorem hE{α β:Type}{f:α→Option β}:∀ {l:List α},(∀q∈l,(f q).isSome=true)→(l.filterMap f).length=l.length
 |[],_=>rfl
 |q::l,h=>by
  have hq:=h q List.mem_cons_self
  cases e:f q with
  |none=>rw[e] at hq;cases hq
  |some b=>rw[List.filterMap_cons_some e,List.length_cons,List.length_cons,hE fun x hx=>h x (List.mem_cons_of_mem _ hx)]
theorem qV{mask:Nat}{owner:Array (Option Nat)}:∀ (m fuel i p:Nat),m<fuel→owner.getD (dW mask m (i,p)).1 (some 0)=none→∃j,SetTable.layClean.free mask owner fuel i p=some j∧owner.getD j (some 0)=none
 |m,0,_,_,h,_=>by lia
 |m,fuel+1,i,p,h,e=>by
  unfold SetTable.layClean.free
  cases hf:(List.range (SetTable.runEnd mask i+1-i)).find? fun k=>(owner.getD (i+k) (some 0)).isNone with
  |some k=>
   refine⟨i+k,rfl,?_⟩
   have:=List.find?_some hf
   simpa using this
  |none=>
   cases m with
   |zero=>
    have h0:(0:Nat)∈List.range (SetTable.runEnd mask i+1-i):=List.mem_range.mpr (by unfold SetTable.runEnd;split <;> lia)
    have:=List.find?_eq_none.mp hf 0 h0
    have e':owner.getD i (some 0)=none:=e
    rw[Nat.add_zero,e'] at this
    exact absurd rfl this
   |succ m=>
    exact qV m fuel _ _ (by lia) e
structure Laid(M:Nat)(owner:Array (Option Nat))(k:Nat):Prop where
 size:owner.size=M
 cnt:owner.toList.countP Option.isSome=k
 lt:∀x,some x∈owner.toList→x<k
theorem yI{l:List (Option Nat)}{j:Nat}{x:Nat}(hj:l[j]?=some none):(l.set j (some x)).countP Option.isSome=l.countP Option.isSome+1:=by
 induction l generalizing j with
 |nil=>cases hj
 |cons a l ih=>
  cases j with
  |zero=>
   obtain rfl:a=none:=by simpa using hj
   simp
  |succ j=>
   rw[List.set_cons_succ,List.countP_cons,List.countP_cons,ih (by simpa using hj)]
   lia
theorem Laid.one{mask:Nat}{owner:Array (Option Nat)}{k:Nat}(L:Laid (mask+1) owner k)(R:Rnd (mask+1))(hk:k<mask+1)(h:Int):
  ∃j,SetTable.layClean.free mask owner (SetTable.turns mask) (SetTable.bits h % (mask+1)) (SetTable.bits h)=some j∧Laid (mask+1) (owner.setIfInBounds j (some k)) (k+1):=by
 have hno:∃j,j<mask+1∧owner.toList[j]?=some none:=by
  apply Classical.byContradiction
  intro hno
  have hall:∀x∈owner.toList,x.isSome=true:=by
   intro x hx
   obtain⟨j,hj,e⟩:=List.mem_iff_getElem.mp hx
   cases x with
   |some _=>rfl
   |none=>
    refine absurd ⟨j,?_,?_⟩ hno
    ·rw[← L.size];simpa using hj
    ·rw[List.getElem?_eq_getElem hj,e]
  have:=List.countP_eq_length.mpr hall
  rw[L.cnt,Array.length_toList,L.size] at this
  lia
 obtain⟨j0,hj0,e0⟩:=hno
 obtain⟨m,hm,em⟩:=mT R (Nat.mod_lt (SetTable.bits h) (Nat.succ_pos mask)) (wH h) hj0
 obtain⟨j,ej,en⟩:=qV (mask:=mask) (owner:=owner) m (SetTable.turns mask) (SetTable.bits h % (mask+1)) (SetTable.bits h) (by unfold SetTable.turns;lia)
  (by rw[em,Array.getD_eq_getD_getElem?,← Array.getElem?_toList,e0];rfl)
 refine⟨j,ej,?_⟩
 have hjn:owner.toList[j]?=some none:=by
  rw[Array.getD_eq_getD_getElem?,← Array.getElem?_toList] at en
  cases hq:owner.toList[j]? with
  |none=>rw[hq] at en;cases en
  |some v=>rw[hq] at en;rw[show v=none from en]
 have hset:(owner.setIfInBounds j (some k)).toList=owner.toList.set j (some k):=by simp
 refine⟨by simp[L.size],by rw[hset,yI hjn,L.cnt],fun x hx=>?_⟩
 rw[hset] at hx
 rcases List.mem_or_eq_of_mem_set hx with z|z
 ·exact Nat.lt_succ_of_lt (L.lt x z)
 ·cases z;exact Nat.lt_succ_self _
theorem wJ{mask:Nat}(R:Rnd (mask+1)):∀ (l:List Int) (owner:Array (Option Nat)) (k:Nat),Laid (mask+1) owner k→k+l.length≤mask→
  ∃owner',l.foldl (fun acc h=>do
   let (owner,k) ← acc
   let j ← SetTable.layClean.free mask owner (SetTable.turns mask) (SetTable.bits h % (mask+1)) (SetTable.bits h)
   pure (owner.setIfInBounds j (some k),k+1)) (some (owner,k))=some (owner',k+l.length)∧Laid (mask+1) owner' (k+l.length)
 |[],owner,k,L,_=>⟨owner,rfl,L⟩
 |h::l,owner,k,L,hl=>by
  rw[List.length_cons] at hl
  obtain⟨j,ej,L'⟩:=L.one R (by lia) h
  obtain⟨o',e,L2⟩:=wJ R l _ _ L' (by lia)
  refine⟨o',?_,by rw[List.length_cons,show k+(l.length+1)=k+1+l.length by lia];exact L2⟩
  rw[List.foldl_cons]
  have:(do
   let (owner,k) ← some (owner,k)
   let j ← SetTable.layClean.free mask owner (SetTable.turns mask) (SetTable.bits h % (mask+1)) (SetTable.bits h)
   pure (owner.setIfInBounds j (some k),k+1):Option (Array (Option Nat)×Nat))=some (owner.setIfInBounds j (some k),k+1):=by
   show (SetTable.layClean.free mask owner (SetTable.turns mask) (SetTable.bits h % (mask+1)) (SetTable.bits h)).bind _=_
   rw[ej];rfl
  rw[this,e,List.length_cons,show k+(l.length+1)=k+1+l.length by lia]
theorem vD{mask:Nat}(R:Rnd (mask+1))(hs:Array Int)(h:hs.size≤mask):∃owner,SetTable.layClean mask hs=some owner∧Laid (mask+1) owner hs.size:=by
 have L0:Laid (mask+1) (Array.replicate (mask+1) none) 0:=⟨by simp,by simp[List.countP_replicate],fun x hx=>by simp at hx⟩
 obtain⟨o,e,L⟩:=wJ R hs.toList _ 0 L0 (by simpa using h)
 refine⟨o,?_,by simpa using L⟩
 unfold SetTable.layClean
 rw[← Array.foldl_toList]
 have e':=congrArg (Option.map (·.1)) e
 exact e'
theorem yJ{M n:Nat}{owner:Array (Option Nat)}(L:Laid M owner n):
  ((List.range M).filterMap fun j=>(owner.getD j none).map (j,·)).length=n∧∀q∈(List.range M).filterMap (fun j=>(owner.getD j none).map (j,·)),q.2<n:=by
 constructor
 ·rw[← L.cnt]
  have e:owner.toList=(List.range M).map fun j=>owner.getD j none:=by
   apply List.ext_getElem
   ·simp[L.size]
   ·intro i h1 h2
    simp only[List.getElem_map,List.getElem_range,Array.getElem_toList]
    rw[Array.getD_eq_getD_getElem?,Array.getElem?_eq_getElem (by simpa using h1)]
    rfl
  conv=>rhs;rw[e]
  rw[List.countP_map]
  generalize List.range M=l
  induction l with
  |nil=>rfl
  |cons a l ih=>
   rw[List.countP_cons,← ih]
   cases hq:owner.getD a none with
   |none=>rw[List.filterMap_cons_none (by rw[hq];rfl),show (Option.isSome ∘ fun j=>owner.getD j none) a=false by show (owner.getD a none).isSome=false;rw[hq];rfl];simp
   |some x=>rw[List.filterMap_cons_some (b:=(a,x)) (by rw[hq];rfl),show (Option.isSome ∘ fun j=>owner.getD j none) a=true by show (owner.getD a none).isSome=true;rw[hq];rfl];simp
 ·intro q hq
  obtain⟨j,_,e⟩:=List.mem_filterMap.mp hq
  cases hx:owner.getD j none with
  |none=>rw[hx] at e;cases e
  |some x=>
   rw[hx] at e
   cases e
   refine L.lt x ?_
   rw[Array.getD_eq_getD_getElem?,← Array.getElem?_toList] at hx
   cases hy:owner.toList[j]? with
   |none=>rw[hy] at hx;cases hx
   |some v=>rw[hy] at hx;obtain rfl:v=some x:=hx;exact List.mem_of_getElem? hy
structure oH(hs:Array Int)(t:SetTable):Prop where
 dm:t.dummies=#[]
 sz:t.place.size=hs.size
 ms:(t.mask=7∧hs.size≤4)∨(t.mask=31∧hs.size≤18)∨(t.mask=127∧hs.size≤76)∨(t.mask=511∧hs.size≤306)
theorem oH.rnd{hs:Array Int}{t:SetTable}(T:oH hs t):Rnd (t.mask+1):=by
 rcases T.ms with ⟨e,_⟩|⟨e,_⟩|⟨e,_⟩|⟨e,_⟩ <;> rw[e]
 ·exact rnd8
 ·exact aCp
 ·exact aAz
 ·exact aAA
theorem kL{α:Type}(xs:Array α)(p:Nat)(x:α):(SetTable.insertAt xs p x).size=xs.size+1:=by
 unfold SetTable.insertAt
 simp
 lia
theorem lB{α:Type}{xs:Array α}{p:Nat}{x y:α}(h:y∈(SetTable.insertAt xs p x).toList):y=x∨y∈xs.toList:=by
 unfold SetTable.insertAt at h
 rw[Array.toList_append,Array.toList_push,Array.toList_extract,Array.toList_extract] at h
 rcases List.mem_append.mp h with z|z
 ·rcases List.mem_append.mp z with z|z
  ·right
   rw[List.extract_eq_drop_take] at z
   exact List.mem_of_mem_drop (List.mem_of_mem_take z)
  ·left;simpa using z
 ·right
  rw[List.extract_eq_drop_take] at z
  exact List.mem_of_mem_drop (List.mem_of_mem_take z)
theorem yK{hs:Array Int}{t:SetTable}{h:Int}(T:oH hs t)(hn:h∉hs.toList)(hl:hs.size<300):∃hs' t',eO hs t h=some (hs',t')∧oH hs' t'∧hs'.size=hs.size+1∧∀x∈hs'.toList,x=h∨x∈hs.toList:=by
 have hle:t.place.size≤t.mask:=by rw[T.sz];rcases T.ms with ⟨e,z⟩|⟨e,z⟩|⟨e,z⟩|⟨e,z⟩ <;> lia
 have hh:∀i,i<t.place.size→hAt hs i≠h:=by
  intro i hi e
  rw[T.sz] at hi
  unfold hAt at e
  rw[Array.getElem?_eq_getElem hi] at e
  exact hn (by rw[← e];simp)
 obtain⟨j,hp⟩:=yH (hashAt:=hAt hs) (h:=h) T.rnd T.dm hle hh
 have hg:t.gaveWay=false:=by
  unfold SetTable.gaveWay
  rcases T.ms with ⟨e,_⟩|⟨e,_⟩|⟨e,_⟩|⟨e,_⟩ <;> rw[e] <;> rfl
 have q1:(t.put j).1.place=SetTable.insertAt t.place (SetTable.below t.place j) j:=rfl
 have q2:(t.put j).1.dummies=#[]:=by
  show (if SetTable.has t.dummies j=true then _ else t.dummies)=_
  rw[T.dm]
  rfl
 have q3:(t.put j).1.mask=t.mask:=rfl
 have s1:(SetTable.insertAt hs (t.put j).2 h).size=hs.size+1:=kL _ _ _
 have s2:(t.put j).1.place.size=hs.size+1:=by rw[q1,kL,T.sz]
 have fl:(t.put j).1.fill=hs.size+1:=by unfold SetTable.fill;rw[s2,q2];rfl
 have fit:(t.put j).1.fits (SetTable.insertAt hs (t.put j).2 h).size=true:=by
  unfold SetTable.fits
  rw[s1,s2,fl,q3]
  simp
  rcases T.ms with ⟨e,z⟩|⟨e,z⟩|⟨e,z⟩|⟨e,z⟩ <;> lia
 unfold eO
 rw[hg,if_neg Bool.false_ne_true,hp]
 dsimp only
 rw[if_pos (by rw[fit,s1];simp;lia)]
 by_cases hf:(t.put j).1.tooFull=true
 ·rw[if_pos hf]
  have hf':=hf
  unfold SetTable.tooFull at hf'
  rw[fl,q3] at hf'
  have hf2:(hs.size+1)*5≥t.mask*3:=by simpa using hf'
  have gr:SetTable.grown (hs.size+1)=(hs.size+1)*4:=by unfold SetTable.grown;rw[if_neg (by lia)]
  obtain⟨m2,em2,hm2,R2⟩:∃m2,SetTable.sizeAbove (SetTable.grown (hs.size+1))=m2+1∧((m2=31∧hs.size+1≤18)∨(m2=127∧hs.size+1≤76)∨(m2=511∧hs.size+1≤306))∧Rnd (m2+1):=by
   rw[gr]
   rcases T.ms with ⟨e,z⟩|⟨e,z⟩|⟨e,z⟩|⟨e,z⟩
   ·have:hs.size=4:=by lia
    exact⟨31,by rw[this];rfl,.inl ⟨rfl,by lia⟩,aCp⟩
   ·have:hs.size=18:=by lia
    exact⟨127,by rw[this];rfl,.inr (.inl ⟨rfl,by lia⟩),aAz⟩
   ·have:hs.size=76:=by lia
    exact⟨511,by rw[this];rfl,.inr (.inr ⟨rfl,by lia⟩),aAA⟩
   ·lia
  have hm3:(SetTable.insertAt hs (t.put j).2 h).size≤m2:=by rw[s1];rcases hm2 with ⟨e,z⟩|⟨e,z⟩|⟨e,z⟩ <;> lia
  obtain⟨owner,eo,L⟩:=vD R2 (SetTable.insertAt hs (t.put j).2 h) hm3
  obtain⟨lv1,lv2⟩:=yJ L
  rw[s1] at lv1 lv2
  generalize hlive:(List.range (m2+1)).filterMap (fun j=>(owner.getD j none).map (j,·))=live at lv1 lv2
  have er:(t.put j).1.relaid (SetTable.insertAt hs (t.put j).2 h) (SetTable.grown (hs.size+1))=some ({ mask:=m2,place:=(live.map (·.1)).toArray,dummies:=#[],finger:=(t.put j).1.finger,led:=(t.put j).1.led,moves:=(t.put j).1.movedTo m2,plain:=(t.put j).1.plain },(live.map (·.2)).toArray):=by
   unfold SetTable.relaid SetTable.laid
   rw[em2]
   simp only[Nat.add_sub_cancel]
   rw[eo]
   show some _=some _
   rw[← hlive]
  rw[er]
  dsimp only
  have hsz2:((live.map (·.2)).toArray.filterMap ((SetTable.insertAt hs (t.put j).2 h)[·]?)).size=hs.size+1:=by
   rw[← Array.length_toList,Array.toList_filterMap]
   show ((live.map (·.2)).filterMap _).length=_
   rw[← lv1,List.filterMap_map]
   refine hE fun q hq=>?_
   show ((SetTable.insertAt hs (t.put j).2 h)[q.2]?).isSome=true
   rw[Array.getElem?_eq_getElem (by rw[s1];exact lv2 q hq)]
   rfl
  have emf:∀x,({ mask:=m2,place:=(live.map (·.1)).toArray,dummies:=#[],finger:=(t.put j).1.finger,led:=(t.put j).1.led,moves:=(t.put j).1.movedTo m2,plain:=(t.put j).1.plain }:SetTable).fits x=(decide (hs.size+1=x)&&decide (hs.size+1≤m2)):=by
   intro x
   unfold SetTable.fits SetTable.fill
   simp[lv1]
   rw[Bool.eq_iff_iff];simp
  rw[if_pos (by
   rw[hsz2,s1,emf,em2]
   have:hs.size+1≤m2:=by rw[← s1];exact hm3
   simp[this]
   rcases hm2 with ⟨e,z⟩|⟨e,z⟩|⟨e,z⟩ <;> lia)]
  refine⟨_,_,rfl,⟨rfl,?_,?_⟩,hsz2,fun x hx=>?_⟩
  ·rw[hsz2];simp[lv1]
  ·rw[hsz2];exact .inr hm2
  ·rw[Array.toList_filterMap] at hx
   obtain⟨k,_,ek⟩:=List.mem_filterMap.mp hx
   refine lB (p:=(t.put j).2) ?_
   rw[← Array.getElem?_toList] at ek
   exact List.mem_of_getElem? ek
 ·rw[if_neg hf]
  refine⟨_,_,rfl,⟨q2,by rw[s2,s1],?_⟩,s1,fun x hx=>lB hx⟩
  have hf':¬ (hs.size+1)*5≥t.mask*3:=by
   intro z
   refine hf ?_
   unfold SetTable.tooFull
   rw[fl,q3]
   simpa using z
  rw[s1,q3]
  rcases T.ms with ⟨e,z⟩|⟨e,z⟩|⟨e,z⟩|⟨e,z⟩ <;> lia
theorem mU:∀ (l:List Int) (hs:Array Int) (t:SetTable),oH hs t→(∀x∈l,x∉hs.toList)→l.Nodup→hs.size+l.length≤300→∃hs' t',l.foldlM (fun q h=>eO q.1 q.2 h) (hs,t)=some (hs',t')∧hs'.size=hs.size+l.length
 |[],hs,t,_,_,_,_=>⟨hs,t,rfl,rfl⟩
 |h::l,hs,t,T,hn,nd,hl=>by
  rw[List.length_cons] at hl
  obtain⟨n1,n2⟩:=List.nodup_cons.mp nd
  obtain⟨hs1,t1,e1,T1,z1,m1⟩:=yK T (hn h List.mem_cons_self) (by lia)
  obtain⟨hs2,t2,e2,z2⟩:=mU l hs1 t1 T1 (fun x hx hy=>by
   rcases m1 x hy with e|e
   ·exact n1 (e ▸ hx)
   ·exact hn x (List.mem_cons_of_mem _ hx) e) n2 (by lia)
  refine⟨hs2,t2,?_,by rw[z2,z1,List.length_cons];lia⟩
  rw[List.foldlM_cons]
  show (eO hs t h).bind _=_
  rw[e1]
  exact e2
theorem aAC(led:Bool){l:List Int}(nd:l.Nodup)(hl:l.length≤300):∃hs t,oG led l=some (hs,t)∧hs.size=l.length:=by
 obtain⟨hs,t,e,z⟩:=mU l #[] (SetTable.fresh 0 0 led) ⟨rfl,rfl,.inl ⟨rfl,by decide⟩⟩ (fun x _ h=>by simp at h) nd (by simpa using hl)
 exact⟨hs,t,e,by simpa using z⟩
end L2
namespace L2
open PySem PySem.Spec PyProof.Rows PySem.W
def rR:List Nat→Nat→Bool
 |[],_=>true
 |x::xs,acc=>bif Nat.testBit acc x then false else rR xs (acc ||| (1 <<< x))
theorem sX:∀ (l:List Nat) (acc:Nat),rR l acc=true→l.Nodup∧∀x∈l,acc.testBit x=false
 |[],_,_=>⟨List.nodup_nil,fun x h=>(nomatch h)⟩
 |x::xs,acc,h=>by
  unfold rR at h
  cases hb:acc.testBit x with
  |true=>rw[hb] at h;cases h
  |false=>
   rw[hb] at h
   obtain⟨nd,hx⟩:=sX xs _ h
   have hor:∀y∈xs,acc.testBit y=false∧y≠x:=by
    intro y hy
    have:=hx y hy
    rw[Nat.testBit_or,Nat.one_shiftLeft,Nat.testBit_two_pow] at this
    rw[Bool.or_eq_false_iff] at this
    exact⟨this.1,fun e=>by have:=this.2;simp[e] at this⟩
   refine⟨List.nodup_cons.mpr ⟨fun hm=>(hor x hm).2 rfl,nd⟩,fun y hy=>?_⟩
   rcases List.mem_cons.mp hy with z|z
   ·rw[z];exact hb
   ·exact(hor y z).1
def nC:List (Int×Int):=(List.range 32).flatMap fun a=>(List.range 32).map fun b=>(Int.ofNat a,Int.ofNat b)
def aCq(h:Int):Nat:=(h % 6554).toNat
theorem aAD(P:Program)(w:World):rR (nC.map fun y=>aCq (eC P w y)) 0=true:=by kernel_rfl
theorem wK{y:Int×Int}(h1:0≤y.1∧y.1<32)(h2:0≤y.2∧y.2<32):y∈nC:=by
 unfold nC
 refine List.mem_flatMap.mpr ⟨y.1.toNat,List.mem_range.mpr (by lia),List.mem_map.mpr ⟨y.2.toNat,List.mem_range.mpr (by lia),Prod.ext ?_ ?_⟩⟩
 ·show ((y.1.toNat:Nat):Int)=y.1;lia
 ·show ((y.2.toNat:Nat):Int)=y.2;lia
theorem kM{α β:Type}{f:α→β}:∀ {l:List α},(l.map f).Nodup→∀x∈l,∀y∈l,f x=f y→x=y
 |[],_,_,h,_,_,_=>by cases h
 |a::l,h,x,hx,y,hy,e=>by
  rw[List.map_cons] at h
  obtain⟨h1,h2⟩:=List.nodup_cons.mp h
  rcases List.mem_cons.mp hx with z|z <;> rcases List.mem_cons.mp hy with z'|z'
  ·rw[z,z']
  ·exact absurd (List.mem_map.mpr ⟨y,z',by rw[← e,z]⟩) h1
  ·exact absurd (List.mem_map.mpr ⟨x,z,by rw[e,z']⟩) h1
  ·exact kM h2 x z y z' e
theorem sY{P:Program}{w:World}{x y:Int×Int}(hx:(0≤x.1∧x.1<32)∧(0≤x.2∧x.2<32))(hy:(0≤y.1∧y.1<32)∧(0≤y.2∧y.2<32))(e:eC P w x=eC P w y):x=y:=
 kM (sX _ _ (aAD P w)).1 x (wK hx.1 hx.2) y (wK hy.1 hy.2) (congrArg aCq e)
theorem lC{α β:Type}{f:α→β}:∀ {l:List α},l.Nodup→(∀x∈l,∀y∈l,f x=f y→x=y)→(l.map f).Nodup
 |[],_,_=>List.nodup_nil
 |a::l,h,hf=>by
  obtain⟨h1,h2⟩:=List.nodup_cons.mp h
  rw[List.map_cons]
  refine List.nodup_cons.mpr ⟨fun z=>?_,lC h2 fun x hx y hy=>hf x (List.mem_cons_of_mem _ hx) y (List.mem_cons_of_mem _ hy)⟩
  obtain⟨y,hy,e⟩:=List.mem_map.mp z
  have:=hf y (List.mem_cons_of_mem _ hy) a List.mem_cons_self e
  exact h1 (this ▸ hy)
theorem vE{P:Program}{w:World}(led:Bool){ys:List (Int×Int)}(nd:ys.Nodup)(hr:∀y∈ys,(0≤y.1∧y.1<32)∧(0≤y.2∧y.2<32))(hl:ys.length≤300):
  ∃hs t,oG led (ys.map (eC P w))=some (hs,t)∧hs.size=ys.length:=by
 obtain⟨hs,t,e,z⟩:=aAC led (lC nd fun x hx y hy e=>sY (P:=P) (w:=w) (hr x hx) (hr y hy) e) (by rw[List.length_map];exact hl)
 exact⟨hs,t,e,by rw[z,List.length_map]⟩
end L2
namespace L2
open PySem PySem.Spec PyProof.Rows PySem.W
theorem pN:∀ {as:List Addr} {its:List Value},Vals (as.map V.ref) its→its=as.map Value.ref
 |[],_,r=>by cases r;rfl
 |a::as,_,r=>by
  cases r with
  |cons r rr=>
   obtain rfl:=(show _=Value.ref a from r)
   rw[pN rr];rfl
def setO(D:Addr)(n:Nat):HO:=.ext fun h=>∃hs t,fZ h D hs t∧hs.size=n
section
variable {X:Cx}
def aEF(K:PySem.W.Frag):List V→Hp→VK→Prop:=fun xs H Q=>∃ (l:Addr) (as:List Addr) (ys:List (Int×Int)),xs=[.ref l]∧SqL K H l (as.map V.ref)∧as.length=ys.length∧
 (∀i,i<ys.length→aAv K H (as.getD i 0) (ys.getD i (0,0)))∧ys.Nodup∧(∀y∈ys,(0≤y.1∧y.1<32)∧(0≤y.2∧y.2<32))∧ys.length≤300∧∀D,H D=none→Q (.ref D) (upd H D (setO D ys.length))
theorem aAE(hc:X.calm=true)(hu:X.A.units+8<cLine):cW X (.type "set") (aEF X.K):=by
 intro pins s σ H xs us Q I r h
 obtain⟨l,as,ys,rfl,hl,hlen,hp,nd,rg,h3,q⟩:=h
 obtain⟨u1,rfl,r1⟩:=r.one
 obtain rfl:u1=Value.ref l:=r1
 obtain⟨its,rv,pl,hz⟩:=I.list hl
 have e:=pN rv
 subst e
 have hpi:gL s.heap (as.map Value.ref) ys:=⟨by rw[List.length_map,hlen],fun i v hv=>by
  rw[List.getElem?_map] at hv
  cases ea:as[i]? with
  |none=>rw[ea] at hv;cases hv
  |some a=>
   rw[ea] at hv
   obtain rfl:Value.ref a=v:=Option.some.inj hv
   have hi:i<as.length:=(List.getElem?_eq_some_iff.mp ea).1
   obtain⟨o,n,t,u,e1,c,d⟩:=yE I (hp i (by lia))
   have eg:as.getD i 0=a:=by rw[List.getD_eq_getElem?_getD,ea];rfl
   rw[eg] at e1
   exact⟨a,o,n,t,u,rfl,e1,c,d⟩⟩
 have hrun:∀led,∃q:Array Int×SetTable,oG led (ys.map (eC X.prog X.w))=some q∧q.1.size=ys.length:=fun led=>
  let ⟨hs,t,e,z⟩:=vE (P:=X.prog) (w:=X.w) led nd rg h3;⟨(hs,t),e,z⟩
 refine aBD (I.ok.hd hc) hu pl.isList hpi (hsN:=fun led=>(hrun led).choose.1) (tN:=fun led=>(hrun led).choose.2) (fun led=>(hrun led).choose_spec.1) fun led h' tk S' k=>?_
 refine⟨.ref s.heap.objs.size,_,I.laidN (t':=tk) (o:=setO s.heap.objs.size ys.length) (fun b u e=>k b u (Heap.lt_size e) e) (Heap.get?_none_of_le (Nat.le_refl _)) ⟨⟨_,_,S',(hrun led).choose_spec.2⟩,?_,fun h1 h2 ⟨hs,t,⟨o,es,ep,q1,q2⟩,z⟩ kk=>⟨hs,t,⟨o,es,ep,kk o q1,q2⟩,z⟩⟩,rfl,q _ I.fresh⟩
 obtain⟨o,_,_,q1,_⟩:=S'
 exact⟨o,q1⟩
theorem vF:cW X (.builtin "len") (fun xs H Q=>∃D n,xs=[.ref D]∧H D=some (setO D n)∧n≤4096∧Q (.int n) H):=by
 intro pins s σ H xs us Q I r h
 obtain⟨D,n,rfl,e,hn,q⟩:=h
 obtain⟨u1,rfl,r1⟩:=r.one
 obtain rfl:u1=Value.ref D:=r1
 obtain⟨⟨hs,t,⟨o,es,ep,q1,q2,q3,q4,q5,q6⟩,z⟩,_⟩:=(show bW X.prog X.w H s.heap D (setO D n) from I.hok D _ e)
 have hsz:es.size=n:=by rw[← z,← q5,Array.size_map]
 exact call_len_set q1 ⟨q2,q3.1,q3.2⟩ q4 q6 (by rw[hsz];lia) ⟨.int n,H,I.tok _,⟨_,by rw[hsz]⟩,q⟩
theorem vG:cW X (.type "range") (fun xs H Q=>∃n,xs=[.int n]∧∀p,H p=none→Q (.ref p) (upd H p (.rng 0 n))):=by
 intro pins s σ H xs us Q I r h
 obtain⟨n,rfl,q⟩:=h
 obtain⟨u1,rfl,t,rfl⟩:=r.one
 refine call_range_1 ⟨.ref s.heap.objs.size,_,I.laid (o:=.rng 0 n) (fun b u e=>Heap.get?_push_of_some _ e) (Nat.le_refl _) ⟨_,_,_,Heap.get?_push_size _ rfl⟩,rfl,q _ I.fresh⟩
theorem yL(hc:X.calm=true):cW X (.type "list") (fun xs H Q=>∃ (p:Addr) (n:Nat),xs=[.ref p]∧H p=some (.rng 0 n)∧n≤1000∧∀l,H l=none→Q (.ref l) (upd H l (.lst ((List.range n).map fun (i:Nat)=>V.int i)))):=by
 intro pins s σ H xs us Q I r h
 obtain⟨p,n,rfl,e,hn,q⟩:=h
 obtain⟨u1,rfl,r1⟩:=r.one
 obtain rfl:u1=Value.ref p:=r1
 obtain⟨t,u,v,hp⟩:=(show bW X.prog X.w H s.heap p (.rng 0 n) from I.hok p _ e)
 refine call_list_range (n:=n) (I.ok.hd hc) (show IsRange s.heap p 0 n 1 t u v from hp) (small_one (by lia) (by lia) (by lia) (by lia)) (by rw[rangeSize_one];split <;> lia) (by lia) fun h' tk acc c k g it=>?_
 obtain⟨i1,i2⟩:=it
 refine⟨.ref s.heap.objs.size,_,I.laidN (t':=tk) (o:=.lst ((List.range n).map fun (i:Nat)=>V.int i)) (fun b u e=>k b u e) (Heap.get?_none_of_le (Nat.le_refl _)) ⟨?_,acc.toList,c,?_,by simpa using g⟩,rfl,q _ I.fresh⟩
 ·rw[List.length_map,List.length_range]
  exact Nat.le_trans hn (by decide)
 ·have go:∀ (m:Nat) (l:List Value),l.length=m→(∀ (j:Nat) v,l[j]?=some v→∃t,v=Value.int (0+(j:Int)*1) t)→Vals ((List.range m).map fun (i:Nat)=>V.int i) l:=by
   intro m
   induction m with
   |zero=>intro l hl _;cases l with
    |nil=>exact .nil
    |cons _ _=>cases hl
   |succ m ih=>
    intro l hl hv
    have hne:l≠[]:=by intro z;rw[z] at hl;cases hl
    have el:l=l.dropLast++[l.getLast hne]:=(List.dropLast_concat_getLast hne).symm
    rw[List.range_succ,List.map_append,el]
    have hdl:l.dropLast.length=m:=by rw[List.length_dropLast,hl];rfl
    refine Vals.append (ih _ hdl fun j v hj=>hv j v ?_) (.cons ?_ .nil)
    ·rw[el]
     have hj':j<l.dropLast.length:=(List.getElem?_eq_some_iff.mp hj).1
     rw[List.getElem?_append_left hj']
     exact hj
    ·obtain⟨t,ht⟩:=hv m (l.getLast hne) (by
      rw[List.getLast_eq_getElem,List.getElem?_eq_getElem (by lia:m<l.length)]
      simp[hl])
     exact⟨t,by rw[ht];simp⟩
  exact go n acc.toList (by simpa using i1) fun j v hj=>i2 j v (by simpa using hj)
end
end L2
namespace L2
open PySem PySem.Spec PyProof.Rows PySem.W
def eS(e:V→V→Bool):List V→List V→Bool
 |[],[]=>true
 |x::xs,y::ys=>e x y&&eS e xs ys
 |_,_=>false
theorem jC{e:V→V→Bool}:∀ {xs ys:List V},xs.length=ys.length→eS e xs ys=(List.range xs.length).all fun i=>e (xs.getD i .non) (ys.getD i .non)
 |[],[],_=>rfl
 |x::xs,y::ys,h=>by
  have h':xs.length=ys.length:=by simpa using h
  rw[eS,jC h',List.length_cons,List.range_succ_eq_map,List.all_cons,List.all_map]
  rfl
 |[],_::_,h=>by simp at h
 |_::_,[],h=>by simp at h
theorem qW{e:V→V→Bool}:∀ {xs ys:List V},xs.length≠ys.length→eS e xs ys=false
 |[],[],h=>absurd rfl h
 |x::xs,y::ys,h=>by
  have h':xs.length≠ys.length:=fun z=>h (by simp[z])
  rw[eS,qW h',Bool.and_false]
 |[],_::_,_=>rfl
 |_::_,[],_=>rfl
section
variable {X:Cx}
def ElEq(X:Cx)(H:Hp)(e:V→V→Bool)(x y:V):Prop:=∀ (pins:List (Addr×Obj)) (s:Shared) (σ:St) (A:Around) (u v:Value),Inv X pins σ H s→A.units+1<cLine→RelV x u→RelV y v→SeqAt.EqAt A s u v (e x y)
def rLEq(X:Cx)(neg:Bool)(e:V→V→Bool):R2:=fun x y H Q=>∃p q xs ys,x=.ref p∧y=.ref q∧SqL X.K H p xs∧SqL X.K H q ys∧(∀i,i<xs.length→i<ys.length→ElEq X H e (xs.getD i .non) (ys.getD i .non))∧Q (.bl (if neg then !eS e xs ys else eS e xs ys)) H
theorem aBE{pins:List (Addr×Obj)}{s:Shared}{σ:St}{H:Hp}{A:Around}{e:V→V→Bool}{xs ys:List V}{us vs:List Value}(I:Inv X pins σ H s)(hu:A.units+1<cLine)(rx:Vals xs us)(ry:Vals ys vs)(he:∀i,i<xs.length→i<ys.length→ElEq X H e (xs.getD i .non) (ys.getD i .non)):∀j (h1:j<us.toArray.size) (h2:j<vs.toArray.size),SeqAt.EqAt A s us.toArray[j] vs.toArray[j] (e (xs.getD j .non) (ys.getD j .non)):=by
 intro j h1 h2
 have j1:j<xs.length:=by rw[rx.length];simpa using h1
 have j2:j<ys.length:=by rw[ry.length];simpa using h2
 have e1:xs[j]?=some (xs.getD j .non):=by rw[List.getD_eq_getElem?_getD,List.getElem?_eq_getElem j1];rfl
 have e2:ys[j]?=some (ys.getD j .non):=by rw[List.getD_eq_getElem?_getD,List.getElem?_eq_getElem j2];rfl
 obtain⟨u,hu1,ru⟩:=rx.get e1
 obtain⟨v,hv1,rv⟩:=ry.get e2
 have eu:us.toArray[j]=u:=by
  have:us[j]?=some us.toArray[j]:=by simp at h1 ⊢
  rw[hu1] at this;exact(Option.some.inj this).symm
 have ev:vs.toArray[j]=v:=by
  have:vs[j]?=some vs.toArray[j]:=by simp at h2 ⊢
  rw[hv1] at this;exact(Option.some.inj this).symm
 rw[eu,ev]
 exact he j j1 j2 pins s σ A u v I hu ru rv
theorem sZ{e:V→V→Bool}(hu:X.A.units+2<cLine):OpR X (compareOp .NotEq) (rLEq X true e):=by
 intro pins s σ H x y v u Q I rx ry h
 obtain⟨p,q,xs,ys,rfl,rfl,hp,hq,he,k⟩:=h
 obtain rfl:v=Value.ref p:=rx
 obtain rfl:u=Value.ref q:=ry
 obtain⟨us,r1,p1,_⟩:=I.list hp
 obtain⟨vs,r2,p2,_⟩:=I.list hq
 by_cases hl:xs.length=ys.length
 ·refine SeqAt.RcNeAt.lists (e:=fun i=>e (xs.getD i .non) (ys.getD i .non)) p1.isList p2.isList (by simp only[List.size_toArray];rw[← r1.length,← r2.length];exact hl) (by lia) (aBE I (by show X.A.units+1+1<cLine;lia) r1 r2 he) _ _ _ _ ⟨.bl _,H,I,rfl,?_⟩
  rw[show us.toArray.size=xs.length by rw[List.size_toArray,r1.length],← jC hl]
  exact k
 ·refine SeqAt.RcNeAt.lists_lengths p1.isList p2.isList (by simp only[List.size_toArray];rw[← r1.length,← r2.length];simpa using hl) (by lia) _ _ _ _ ⟨.bl _,H,I,rfl,?_⟩
  have k':=k
  rw[qW hl] at k'
  exact k'
theorem aAF(hc:X.calm=true):cW X (.builtin "any") (fun xs H Q=>∃ (p:Addr) (bs:List Bool),xs=[.ref p]∧SqL X.K H p (bs.map V.bl)∧Q (.bl (bs.any id)) H):=by
 intro pins s σ H xs us Q I r h
 obtain⟨p,bs,rfl,hp,q⟩:=h
 obtain⟨u1,rfl,r1⟩:=r.one
 obtain rfl:u1=Value.ref p:=r1
 obtain⟨its,rv,pl,hz⟩:=I.list hp
 have hits:its=bs.map Value.bool:=by
  have go:∀ (bs:List Bool) (its:List Value),Vals (bs.map V.bl) its→its=bs.map Value.bool:=by
   intro bs
   induction bs with
   |nil=>intro its r;cases r;rfl
   |cons b bs ih=>
    intro its r
    cases r with
    |cons r rr=>
     obtain rfl:=(show _=Value.bool b from r)
     rw[ih _ rr];rfl
  exact go bs its rv
 subst hits
 obtain⟨ob,hob,_⟩:=id pl.isList
 have hlt:p<s.heap.objs.size:=Heap.lt_size hob
 refine call_any_walk (wpAny_pyIter_list pl.isList ⟨s.heap.objs.size,_,_,_,_,_,fun i=>bs.getD i false,rfl,Walks.list (show X.A.in1.handled=none from I.ok.hd hc) _ p (Nat.ne_of_lt hlt) _,⟨⟨_,Heap.get?_push_size _ rfl,rfl,rfl⟩,pl.isList.push _⟩,fun i v s1 Q' E' hv hq=>?_,fun h' tk k=>?_⟩)
 ·have hv':(bs.map Value.bool)[i]?=some v:=by simpa using hv
  rw[List.getElem?_map] at hv'
  cases eb:bs[i]? with
  |none=>rw[eb] at hv';cases hv'
  |some b=>
   rw[eb] at hv'
   obtain rfl:Value.bool b=v:=Option.some.inj hv'
   have:bs.getD i false=b:=by rw[List.getD_eq_getElem?_getD,eb];rfl
   have hq':Q' b s1:=by rw[← this];exact hq
   exact wpAny_pure hq'
 ·have keep:∀b o,s.heap.get? b=some o→h'.get? b=some o:=fun b o e=>k b o (by simpa using Nat.ne_of_lt (Heap.lt_size e)) (Heap.get?_push_of_some _ e)
  refine⟨.bl (bs.any id),H,I.kept (t':=tk) keep,?_,q⟩
  show Value.bool _=Value.bool _
  congr 1
  have go:∀ (bs:List Bool),((List.range bs.length).any fun i=>bs.getD i false)=bs.any id:=by
   intro bs
   induction bs with
   |nil=>rfl
   |cons b bs ih=>
    rw[List.length_cons,List.range_succ_eq_map,List.any_cons,List.any_map,List.any_cons,← ih]
    rfl
  rw[← go bs]
  simp
end
end L2
namespace L2
open PySem PySem.Spec PyProof.Rows
def mB(c:Addr)(qual:Str):HO:=.ext fun h=>h.CodeRec (.ref c) qual
theorem aBF{P:Program}{w:World}{H:Hp}{h:Heap}{c:Addr}{qual:Str}(x:h.CodeRec (.ref c) qual):bW P w H h c (mB c qual):=by
 refine⟨x,?_,?_⟩
 ·obtain⟨c',o,vs,t,e,ho,_⟩:=x
  cases e;exact⟨o,ho⟩
 ·rintro h1 h2 ⟨c',o,vs,t,e,ho,r⟩ k
  cases e;exact⟨c,o,vs,t,rfl,k o ho,r⟩
def aCr(f:Addr)(qual:Str)(params:Arguments)(body:Expr)(scope:Scope)(cells:List (Str×Addr))(c:Addr)(h:Heap):Prop:=
 ∃ (clos:List (Str×Addr)) (pm ctv:Value),(∀x a,clos.lookup x=some a→cells.lookup x=some a)∧(∀x,(x,NameKind.free)∈scope.names→∃a,clos.lookup x=some a)∧
  h.get? f=some (PySem.W.kla_obj "<lambda>" qual params body scope clos pm c ctv)
def lamO(f:Addr)(qual:Str)(params:Arguments)(body:Expr)(scope:Scope)(cells:List (Str×Addr))(c:Addr):HO:=.ext (aCr f qual params body scope cells c)
theorem wL{P:Program}{w:World}{H:Hp}{h:Heap}{f:Addr}{qual:Str}{params:Arguments}{body:Expr}{scope:Scope}{cells:List (Str×Addr)}{c:Addr}(x:aCr f qual params body scope cells c h):
  bW P w H h f (lamO f qual params body scope cells c):=by
 refine⟨x,?_,?_⟩
 ·obtain⟨_,_,_,_,_,e⟩:=x
  exact⟨_,e⟩
 ·rintro h1 h2 ⟨clos,pm,ctv,a,b,e⟩ k
  exact⟨clos,pm,ctv,a,b,k _ e⟩
def yM(lp:Pos)(qual:Str)(P:Addr)(H:Hp):Prop:=H P=some (.tbl #[])∨∃c,H P=some (.tbl #[rawInt lp.line,rawInt lp.col,.ref c])∧H c=some (mB c qual)
structure LamC(X:Cx)(c P:Addr):Prop where
 code:X.env.code=.ref c
 hd:PySem.W.CodeHd X.base c P
 bm:∃bm o,X.mg "__builtins__"=some (.ref bm)∧bm≠builtinsNs∧bm≠mainGlobals∧X.base.get? bm=some o∧o.cls=.type "module"∧o.dict=some builtinsNs∧o.data=.plain
def tLam(lp:Pos)(qual:Str)(P:Addr)(params:Arguments)(body:Expr)(scope:Scope)(cells:List (Str×Addr)):TE:=fun _ H Q=>yM lp qual P H∧
 ∀ (f c:Addr) (H2:Hp),yM lp qual P H2→(∀b o,H b=some o→b≠P→H2 b=some o)→H2 c=some (mB c qual)→H2 f=some (lamO f qual params body scope cells c)→Q (.ref f) H2
theorem vH{lp:Pos}{c:Addr}:TriplesOk (#[rawInt lp.line,rawInt lp.col,.ref c]:Array Value).toList:=trivial
theorem aAG{lp:Pos}{c:Addr}:codeAmong lp (#[rawInt lp.line,rawInt lp.col,.ref c]:Array Value).toList=some (.ref c):=by
 show (if ((lp.line:Int)==(lp.line:Int)&&(lp.col:Int)==(lp.col:Int))=true then some (Value.ref c) else _)=_
 simp
section
variable {X:Cx} {c P:Addr} {params:Arguments} {body:Expr} {scope:Scope} {lp:Pos} {NB:List Str} {src:List (Option Nat)}
theorem LamC.at(C:LamC X c P){pins:List (Addr×Obj)}{σ:St}{H:Hp}{s:Shared}{ps:Array Value}(I:Inv X pins σ H s)(hP:H P=some (.tbl ps)):s.heap.BuiltinsAt X.mg P:=by
 obtain⟨bm,o,b1,b2,b3,b4,b5,b6,b7⟩:=C.bm
 refine⟨bm,o,b1,b2,b3,fun z=>?_,I.bk _ _ b4,b5,b6,b7⟩
 have:=(I.bs _ _ b4).2
 rw[z,hP] at this;cases this
theorem Inv.globs{pins:List (Addr×Obj)}{σ:St}{H:Hp}{s:Shared}(I:Inv X pins σ H s):s.heap.Ns mainGlobals X.mg:=I.mod.glob.keeps I.bk
theorem aDY(C:LamC X c P)(S:fQ NB src scope X)(hdef:defaultsOf params X.env=([],[]):=by rfl):PE X (.Lambda params body scope lp) (tLam lp (X.env.qual++"<lambda>") P params body scope X.env.cells):=by
 intro pins s σ H Q I h
 obtain⟨tab,h⟩:=h
 obtain⟨clos,ecl,c1,c2⟩:=kA I.ok S
 refine PySem.W.kla_eval hdef ?_
 have hsz:∀b o,s.heap.get? b=some o→b<s.heap.objs.size:=fun b o e=>Heap.lt_size e
 rcases tab with hP|⟨c',hP,hc'⟩
 ·-- the first time
  have hPo:s.heap.get? P=some (PySem.W.tabObj #[]):=I.hok P _ hP
  have hPL:X.env.locals≠P:=fun z=>by have f:=I.free;rw[z,hP] at f;cases f
  have hPg:mainGlobals≠P:=fun z=>by
   obtain⟨o,es,ep,e,d,_⟩:=I.mod.glob
   have:=(I.bs _ _ e).2
   rw[z,hP] at this;cases this
  refine PySem.W.kla_makeFunction (mg:=X.mg) ecl I.ok.glob I.globs C.code (C.hd.keeps I.bk) hPo (by trivial) rfl hPg (C.at I hP) fun c' ctv h' tk hx hge hlt hrec htb=>?_
  have hgt:∀b o,b≠P→s.heap.get? b=some o→(h'.push (PySem.W.kla_obj "<lambda>" (X.env.qual++"<lambda>") params body scope clos ((X.mg "__name__").getD .none) c' ctv)).get? b=some o:=fun b o hb e=>Heap.get?_push_of_some _ (hx b o hb e)
  have hcP:c'≠P:=Nat.ne_of_gt (Nat.lt_of_lt_of_le (hsz _ _ hPo) hge)
  have hfP:h'.objs.size≠P:=Nat.ne_of_gt (Nat.lt_of_lt_of_le (hsz _ _ hPo) (Nat.le_trans hge (Nat.le_of_lt hlt)))
  have hfc:h'.objs.size≠c':=Nat.ne_of_gt hlt
  have nf:H h'.objs.size=none:=I.hok.fresh (by lia)
  have nc:H c'=none:=I.hok.fresh hge
  let H2:Hp:=upd (upd (upd H P (.tbl #[rawInt lp.line,rawInt lp.col,.ref c'])) c' (mB c' (X.env.qual++"<lambda>"))) h'.objs.size (lamO h'.objs.size (X.env.qual++"<lambda>") params body scope X.env.cells c')
  have eP:H2 P=some (.tbl #[rawInt lp.line,rawInt lp.col,.ref c']):=by
   show upd _ _ _ _=_
   rw[aF hfP.symm,aF hcP.symm,aB]
  have ec:H2 c'=some (mB c' (X.env.qual++"<lambda>")):=by
   show upd _ _ _ _=_
   rw[aF hfc.symm,aB]
  have ef:H2 h'.objs.size=some (lamO h'.objs.size (X.env.qual++"<lambda>") params body scope X.env.cells c'):=aB
  have eo:∀b,b≠P→b≠c'→b≠h'.objs.size→H2 b=H b:=fun b h1 h2 h3=>by
   show upd _ _ _ _=_
   rw[aF h3,aF h2,aF h1]
  have old:∀b o,H b=some o→b≠P→H2 b=some o:=fun b o e hb=>by
   rw[eo b hb (aH e nc) (aH e nf)];exact e
  have I2:Inv X pins σ H2 { s with heap:=h'.push (PySem.W.kla_obj "<lambda>" (X.env.qual++"<lambda>") params body scope clos ((X.mg "__name__").getD .none) c' ctv),toks:=tk }:=by
   refine I.step (g':=s.gens) (d':=s.drawn) (ch:=[]) (fun _ z=>absurd z (by simp)) (fun b o _ _ _ e n=>hgt b o (fun z=>by rw[z,hP] at n;cases n) e) (fun b o _ _ _ e n=>⟨o.slots,hgt b o (fun z=>by rw[z,hP] at n;cases n) e⟩)
    (fun b o _ e n=>?_) (fun b o _ e=>?_) (fun b xs e=>old b _ e fun z=>by rw[z,hP] at e;cases e) (fun b o u e=>old b _ e fun z=>by rw[z,hP] at e;cases e) (fun b ps e=>?_) (fun m hm=>?_) (fun b o e=>?_) I.bare
   ·rw[eo b (fun z=>by rw[z,hP] at n;cases n) (Nat.ne_of_lt (Nat.lt_of_lt_of_le (hsz b o e) hge)) (Nat.ne_of_lt (Nat.lt_of_lt_of_le (hsz b o e) (Nat.le_trans hge (Nat.le_of_lt hlt))))]
    exact n
   ·by_cases hb:b=P
    ·exact⟨_,by rw[hb];exact Heap.get?_push_of_some _ htb⟩
    ·exact⟨o,hgt b o hb e⟩
   ·by_cases hb:b=P
    ·rw[hb] at e ⊢
     rw[hP] at e;cases e
     exact⟨#[rawInt lp.line,rawInt lp.col,.ref c'],by rw[eP];simp⟩
    ·exact⟨#[],by rw[old b _ e hb];simp⟩
   ·exact(hm.extBut hx hPL).push _
   ·by_cases hbf:b=h'.objs.size
    ·subst hbf
     rw[ef] at e;cases e
     exact wL ⟨clos,_,ctv,c1,c2,Heap.get?_push_size _ rfl⟩
    ·by_cases hbc:b=c'
     ·subst hbc
      rw[ec] at e;cases e
      refine aBF ?_
      obtain⟨c₂,oc,vs,t,e2,hoc,r⟩:=hrec
      exact⟨c₂,oc,vs,t,e2,Heap.get?_push_of_some _ hoc,r⟩
     ·by_cases hbP:b=P
      ·subst hbP
       rw[eP] at e;cases e
       exact Heap.get?_push_of_some _ htb
      ·rw[eo b hbP hbc hbf] at e
       refine(I.hok b o e).stay (fun d u hd q=>hgt d u ?_ q) (fun d q=>old d _ q fun z=>by rw[z,hP] at q;cases q) fun d xs q=>old d _ q fun z=>by rw[z,hP] at q;cases q
       rintro rfl
       rcases hd with z|z
       ·exact hbP z.symm
       ·rw[hP] at z;cases z
  exact⟨.ref h'.objs.size,H2,I2,rfl,h _ c' H2 (.inr ⟨c',eP,ec⟩) old ec ef⟩
 ·-- again
  have hPo:s.heap.get? P=some (PySem.W.tabObj #[rawInt lp.line,rawInt lp.col,.ref c']):=I.hok P _ hP
  refine PySem.W.kla_makeFunctionHit (mg:=X.mg) ecl I.ok.glob I.globs C.code (C.hd.keeps I.bk) hPo vH aAG (C.at I hP) fun ctv h' tk hk hge=>?_
  have nf:H h'.objs.size=none:=I.hok.fresh hge
  let H2:Hp:=upd H h'.objs.size (lamO h'.objs.size (X.env.qual++"<lambda>") params body scope X.env.cells c')
  have ef:H2 h'.objs.size=some (lamO h'.objs.size (X.env.qual++"<lambda>") params body scope X.env.cells c'):=aB
  have old:∀b o,H b=some o→H2 b=some o:=fun b o e=>by
   show upd _ _ _ _=_
   rw[aF (aH e nf)];exact e
  have hgt:∀b o,s.heap.get? b=some o→(h'.push (PySem.W.kla_obj "<lambda>" (X.env.qual++"<lambda>") params body scope clos ((X.mg "__name__").getD .none) c' ctv)).get? b=some o:=fun b o e=>Heap.get?_push_of_some _ (hk b o e)
  have I2:Inv X pins σ H2 { s with heap:=h'.push (PySem.W.kla_obj "<lambda>" (X.env.qual++"<lambda>") params body scope clos ((X.mg "__name__").getD .none) c' ctv),toks:=tk }:=by
   refine I.step (g':=s.gens) (d':=s.drawn) (ch:=[]) (fun _ z=>absurd z (by simp)) (fun b o _ _ _ e n=>hgt b o e) (fun b o _ _ _ e n=>⟨o.slots,hgt b o e⟩)
    (fun b o _ e n=>?_) (fun b o _ e=>⟨o,hgt b o e⟩) (fun b xs e=>old b _ e) (fun b o u e=>old b _ e) (fun b ps e=>⟨#[],by rw[old b _ e];simp⟩) (fun m hm=>(hm.keeps hk).push _) (I.hok.laid hgt hge (wL ⟨clos,_,ctv,c1,c2,Heap.get?_push_size _ rfl⟩)) I.bare
   ·show upd _ _ _ _=_
    rw[aF (Nat.ne_of_lt (Nat.lt_of_lt_of_le (hsz b o e) hge))]
    exact n
  exact⟨.ref h'.objs.size,H2,I2,rfl,h _ c' H2 (.inr ⟨c',old _ _ hP,old _ _ hc'⟩) (fun b o e _=>old b o e) (old _ _ hc') ef⟩
end
end L2
namespace L2
open PySem PySem.Spec PyProof.Rows
def aAH(X:Cx)(id:String)(ks:List Str)(r:St→List V→List V→Hp→VK→Prop):Prop:=
 ∀ (pins:List (Addr×Obj)) (s:Shared) (σ:St) (H:Hp) (vs zs:List V) (us ws:List Value) (Q:VK),Inv X pins σ H s→Vals vs us→Vals zs ws→r σ vs zs H Q→
  wpAny (model X.prog X.w) X.A (call (.builtin id) us (ks.zip ws)) (EP X pins σ Q) X.xe s
def tCBK(r:St→List V→List V→Hp→VK→Prop)(t tk:TA):TE:=fun σ H Q=>t σ H fun vs H1=>tk σ H1 fun zs H2=>r σ vs zs H2 Q
section
variable {X:Cx} {x:Str} {p pos:Pos} {e:Expr} {es:List Expr} {kws:List Keyword} {t tk:TA} {id:String} {ks:List Str} {r:St→List V→List V→Hp→VK→Prop}
theorem aAI(hc:aAH X id ks r)(hg:Gl X x)(hm:X.mg x=none)(hv:bootBuiltins x=some (.builtin id))(ha:PA X (e::es) t)(hkw:PK X kws tk)(hn:x≠"__name__":=by decide)(hdb:(x==("__debug__":Str))=false:=by decide)(hks:(backToKw pos (keywordEach kws X.env)).filterMap (·.1)=ks:=by rfl)(he:backTo pos (starEach (e::es) X.env)=(false,eval e X.env)::backTo pos (starEach es X.env):=by rfl)(hplain:(backTo pos (starEach (e::es) X.env)).any (·.1)=false:=by rfl)(hall:(backToKw pos (keywordEach kws X.env)).all (·.1.isSome)=true:=by rfl)(hno:(backToKw pos (keywordEach kws X.env)).any (·.1.isNone)=false:=by rfl):PE X (.Call (.Name x p) (e::es) kws pos) (tCBK r t tk):=by
 intro pins s σ H Q I h
 refine wpAny_Call_Name_kw (gY I hg hm hv ?_ hn hdb)
 refine PyProof.Rows.callWith_kw (thn (ha pos pins s σ H _ I h) fun us s1 ⟨vs,H1,I1,r1,q1⟩=>?_) he hplain hall hno
 refine thn (hkw pos pins s1 σ H1 _ I1 q1) fun ws s2 ⟨zs,H2,I2,rz,q2⟩=>?_
 rw[hks]
 exact hc pins s2 σ H2 vs zs us ws Q I2 r1 rz q2
end
def KOut(za zb:Int)(ns out:List Int):Prop:=∃ps:List (Int×Int),ps.Perm (ns.map fun z=>((z-za) % zb,z))∧out=ps.map (·.2)∧ps.Pairwise fun p q=>p.1≤q.1
def aDZ(X:Cx)(qual:Str)(params:Arguments)(body:Expr)(scope:Scope)(ia ib:Nat):St→List V→List V→Hp→VK→Prop:=fun σ vs zs H Q=>
 ∃ (l f c:Addr) (ns:List Int) (za zb:Int),vs=[.ref l]∧zs=[.ref f]∧SqL X.K H l (ns.map V.int)∧ns.length<64∧H f=some (lamO f qual params body scope X.env.cells c)∧H c=some (mB c qual)∧
  σ[ia]?=some (some (.int za))∧σ[ib]?=some (some (.int zb))∧0<zb∧∀ (r:Addr) (out:List Int),H r=none→KOut za zb ns out→Q (.ref r) (upd H r (.lst (out.map V.int)))
theorem qX:∀ {ns:List Int} {vs:List Value},Vals (ns.map V.int) vs→IntsAre vs ns
 |[],_,.nil=>.nil
 |_::_,_,.cons ⟨t,e⟩ r=>by subst e;exact .cons _ t (qX r)
structure LamS(X:Cx)(qual:Str)(params:Arguments)(body:Expr)(scope:Scope)(y a b:Str)(ia ib:Nat):Prop where
 bd:∃p1 p2 p3 p4 p5,body=.BinOp (.BinOp (.Name y p1) .Sub (.Name a p2) p3) .Mod (.Name b p4) p5
 bind:∀clos pm c ctv v,bindArgs (PySem.W.kla_fn "<lambda>" qual params body scope clos pm (.ref c) ctv) ⟨[v],[]⟩=pure [(y,v)]
 na:X.N[ia]?=some a
 nb:X.N[ib]?=some b
 ca:X.env.scope.names.lookup a=some .cell
 cb:X.env.scope.names.lookup b=some .cell
 ly:scope.names.lookup y=some .local
 fa:scope.names.lookup a=some .free
 fb:scope.names.lookup b=some .free
 ma:(a,NameKind.free)∈scope.names
 mb:(b,NameKind.free)∈scope.names
 nocell:∀z∈scope.names,z.2≠.cell
 kind:scope.kind=.function
 co:scope.isCoroutine=false
 gen:scope.isGenerator=false
 dy:(y==("__debug__":Str))=false
 da:(a==("__debug__":Str))=false∧(a==("__classdict__":Str))=false
 db:(b==("__debug__":Str))=false∧(b==("__classdict__":Str))=false
theorem yN{X:Cx}{qual:Str}{params:Arguments}{body:Expr}{scope:Scope}{y a b:Str}{ia ib k:Nat}(S:LamS X qual params body scope y a b ia ib)(hr:Room k X.A):
  aAH X "sorted" ["key"] (aDZ X qual params body scope ia ib):=by
 intro pins s σ H vs zs us ws Q I r rz h
 obtain⟨l,f,c,ns,za,zb,rfl,rfl,hl,h64,hf,hc,sa,sb,hb0,q⟩:=h
 obtain⟨u1,rfl,r1⟩:=r.one
 obtain rfl:u1=Value.ref l:=r1
 obtain⟨w1,rfl,rw1⟩:=rz.one
 obtain rfl:w1=Value.ref f:=rw1
 obtain⟨its,rv,pl,hz⟩:=I.list hl
 have hI:=qX rv
 obtain⟨m,F⟩:=I.fr
 obtain⟨p1,p2,p3,p4,p5,rfl⟩:=S.bd
 obtain⟨clos,pm,ctv,c1,c2,hfo⟩:=(I.hok f _ hf).1
 have hcr:s.heap.CodeRec (.ref c) qual:=(I.hok c _ hc).1
 obtain⟨m',hn',hlk⟩:=I.loc
 have cellA:∃ca ta,clos.lookup a=some ca∧s.heap.IsCell ca (some (.int za ta)):=by
  obtain⟨u,⟨ta,rfl⟩,lk⟩:=hlk ia a (.int za) S.na sa (.inr (.inl S.ca))
  obtain⟨ca,e1⟩:=c2 a S.ma
  rcases lk with ⟨z,_⟩|⟨_,ca',e2,e3⟩
  ·have z':X.env.scope.names.lookup a=some .local:=z
   rw[S.ca] at z';cases z'
  ·have e4:=c1 a ca e1
   rw[e2] at e4;cases e4
   exact⟨ca,ta,e1,e3⟩
 have cellB:∃cb tb,clos.lookup b=some cb∧s.heap.IsCell cb (some (.int zb tb)):=by
  obtain⟨u,⟨tb,rfl⟩,lk⟩:=hlk ib b (.int zb) S.nb sb (.inr (.inl S.cb))
  obtain⟨cb,e1⟩:=c2 b S.mb
  rcases lk with ⟨z,_⟩|⟨_,cb',e2,e3⟩
  ·have z':X.env.scope.names.lookup b=some .local:=z
   rw[S.cb] at z';cases z'
  ·have e4:=c1 b cb e1
   rw[e2] at e4;cases e4
   exact⟨cb,tb,e1,e3⟩
 obtain⟨ca,ta,ea,ha⟩:=cellA
 obtain⟨cb,tb,eb,hb⟩:=cellB
 have noL:∀b' (o:Obj),s.heap.get? b'=some o→(∀es ep,o.data≠.dict es ep)→b'≠X.env.locals:=fun b' o e d z=>by
  obtain⟨o',es,ep,e',d',_⟩:=F.ns
  rw[z,e'] at e;cases e
  exact d _ _ d'
 have len:(ns.map fun z=>(z-za) % zb).length=its.length:=by rw[List.length_map,hI.length]
 refine ksk_sorted (b:=false) (f:=.ref f) (kz:=ns.map fun z=>(z-za) % zb) F aBr pl.isList len (by rw[hI.length];exact h64) (ksk_s1 _ _) (fun x=>ksk_l1 _ _) (fun x=>ksk_t1 _ _) ?_ ?_
 ·-- one key
  intro i v k hv hk h tk own F' N'
  have at_:∀b' u,b'≠X.env.locals→s.heap.get? b'=some u→h.get? b'=some u:=fun b' u hne e=>by
   cases z:X.base.get? b' with
   |some o=>
    have:=I.bk b' o z
    rw[e] at this;cases this
    exact F'.keep b' _ z
   |none=>exact(N' (b',u) (List.mem_append_left _ (jB hne z e))).1
  have hfo':=at_ f _ (noL f _ hfo (by intro es ep z;cases z)) hfo
  have hcr':h.CodeRec (.ref c) qual:=by
   obtain⟨c0,o,vs0,t0,e0,ho,hd,hv0⟩:=hcr
   refine⟨c0,o,vs0,t0,e0,at_ _ _ (noL _ _ ho (by rw[hd];intro es ep z;cases z)) ho,hd,hv0⟩
  have ha':h.IsCell ca (some (.int za ta)):=by
   obtain⟨o,ho,hd⟩:=ha
   exact⟨o,at_ _ _ (noL _ _ ho (by rw[hd];intro es ep z;cases z)) ho,hd⟩
  have hb':h.IsCell cb (some (.int zb tb)):=by
   obtain⟨o,ho,hd⟩:=hb
   exact⟨o,at_ _ _ (noL _ _ ho (by rw[hd];intro es ep z;cases z)) ho,hd⟩
  obtain⟨z,tz,rfl,rfl⟩:∃z tz,v=.int z tz∧k=(z-za) % zb:=by
   obtain⟨n,t,e⟩:=hI.all v (List.mem_of_getElem? hv)
   refine⟨n,t,e,?_⟩
   rw[List.getElem?_map] at hk
   have hn:=hI.nums
   have e1:(its.map numOf)[i]?=some n:=by rw[List.getElem?_map,hv,e];rfl
   rw[hn] at e1
   rw[e1] at hk
   exact(Option.some.inj hk).symm
  have hroom:X.A.in1.in1.depth<recursionLimit:=by
   have:=hr.dp
   show X.A.depth<_
   lia
  refine wpAny_call (PySem.W.kla_callFunE hroom hfo' rfl S.co S.gen rfl hcr' ?_)
  rw[S.bind]
  refine wpAny_pure (wpAny_newFunctionEnv S.nocell (fun x hx=>by rw[List.mem_singleton.mp hx];exact S.ly) (fun h₁ hns hsb=>⟨((I.ok.mod.nolimit).keeps F'.keep).fresh _ hsb,?_⟩) S.kind)
  have hk₁:∀b o,h.get? b=some o→h₁.get? b=some o:=fun b o e=>hsb.extBut b o (Nat.ne_of_lt (Heap.lt_size e)) (Heap.get?_push_of_some _ e)
  have ha₁:=ha'.keeps hk₁
  have hb₁:=hb'.keeps hk₁
  refine PySem.W.kla_codeExpr ?_
  refine wpAny_BinOp (wpAny_BinOp ?_)
  refine wpAny_Name (wpAny_loadName_local S.kind S.ly hns (v:=.int z tz) (by simp) ?_) S.dy
  refine wpAny_Name (wpAny_loadName_free S.kind S.fa ea ha₁ ?_ S.da.2) S.da.1
  refine sub_int ?_
  refine wpAny_Name (wpAny_loadName_free S.kind S.fb eb hb₁ ?_ S.db.2) S.db.1
  refine mod_int' (by lia) ?_
  rw[Int.fmod_eq_emod_of_nonneg _ (by lia)]
  refine KskEnd.intro (news':=gK X.base s.heap X.env.locals++own) ⟨F'.ns.keeps hk₁,fun b o e=>hk₁ b o (F'.keep b o e),F'.above⟩ (fun p hp=>⟨hk₁ _ _ (N' p hp).1,(N' p hp).2⟩) fun p hp=>hp
 ·-- the list
  intro D h' tk out cc F' N' hlt kout
  have hD:=rK I N' hlt
  obtain⟨ps,hp,ho,hs⟩:=kout
  have hmem:∀p∈ps,∃n t,p.2=.int n t:=fun p hp'=>by
   have:=hp.mem_iff.mp hp'
   exact hI.all _ (List.of_mem_zip this).2
  have hz':((ns.map fun z=>(z-za) % zb).zip its).map (fun p=>(p.1,numOf p.2))=ns.map fun z=>((z-za) % zb,z):=by
   have hn:=hI.nums
   rw[← hn]
   have go:∀ (l:List Value),((((l.map numOf).map fun z=>(z-za) % zb).zip l).map fun p=>(p.1,numOf p.2))=(l.map numOf).map fun z=>((z-za) % zb,z):=by
    intro l
    induction l with
    |nil=>rfl
    |cons x l ih=>simp only[List.map_cons,List.zip_cons_cons,ih]
   exact go its
  have vals:Vals ((ps.map fun p=>(p.1,numOf p.2)).map (fun p=>V.int p.2)) (ps.map Prod.snd):=by
   have go:∀ (l:List (Int×Value)),(∀p∈l,∃n t,p.2=.int n t)→Vals ((l.map fun p=>(p.1,numOf p.2)).map (fun p=>V.int p.2)) (l.map Prod.snd):=by
    intro l
    induction l with
    |nil=>intro _;exact .nil
    |cons x l ih=>
     intro hx
     refine .cons ?_ (ih fun p hp=>hx p (List.mem_cons_of_mem _ hp))
     obtain⟨n,t,e⟩:=hx x List.mem_cons_self
     show ∃t,x.2=Value.int (numOf x.2) t
     rw[e];exact⟨t,rfl⟩
   exact go ps hmem
  have hout:KOut za zb ns ((ps.map fun p=>(p.1,numOf p.2)).map (·.2)):=by
   refine⟨ps.map fun p=>(p.1,numOf p.2),?_,rfl,?_⟩
   ·rw[← hz'];exact hp.map _
   ·refine List.pairwise_map.mpr (hs.imp fun {p q} z=>?_)
    simpa using z
  have hDo:h'.get? D=some (seqObj "list" out cc):=(N' _ List.mem_cons_self).1
  have I2:Inv X pins σ (upd H D (.lst (((ps.map fun p=>(p.1,numOf p.2)).map (·.2)).map V.int))) { s with heap:=h',toks:=tk }:=by
   refine I.fromK F F' (fun p hp=>N' p (List.mem_cons_of_mem _ hp)) hD ⟨?_,ps.map Prod.snd,cc,?_,?_⟩
   ·have h1:=hp.length_eq
    rw[List.length_zip,len,Nat.min_self] at h1
    simp only[List.length_map]
    rw[h1,hI.length]
    exact Nat.le_trans (Nat.le_of_lt h64) (by decide)
   ·have ev:=vals;simp only[List.map_map] at ev ⊢;exact ev
   ·rw[hDo,← ho]
  exact⟨.ref D,_,I2,rfl,q D _ (I.hok.freshN hD) hout⟩
end L2
namespace L2
open PySem PySem.Spec PyProof.Rows
def BmOk(mg:Str→Option Value)(base:Heap):Prop:=∃bm o,mg "__builtins__"=some (.ref bm)∧bm≠builtinsNs∧bm≠mainGlobals∧base.get? bm=some o∧o.cls=.type "module"∧o.dict=some builtinsNs∧o.data=.plain
def rS(ts:List Addr)(H:Hp):Prop:=(∀P∈ts,H P=some (.tbl #[]))∧∀b,H b=none∨(b∈ts∧H b=some (.tbl #[]))∨∃o xs,H b=some (.frz o (.lst xs))
theorem aAJ{P:Program}{w:World}{K:PySem.W.Frag}{mg mb:Str→Option Value}{CX:CXT}{k:Nat}{fa a:Addr}{fd:FuncData}{x:Str}{sp:Sp}{s₁:Shared}{vs:List Value}{ns:List Int}{ts:List Addr}(KX:K.In s₁.heap)(hns:s₁.heap.Ns mainGlobals mg)(hb:s₁.heap.Ns builtinsNs mb)(hbb:∀x:Str,x≠"__name__"→mb x=bootBuiltins x)(hlim:s₁.heap.NoLimit)(hg:s₁.gens=#[])(hbm:BmOk mg s₁.heap)(hts:∀P∈ts,s₁.heap.get? P=some (PySem.W.tabObj #[]))(hcd:∀P∈ts,∃c,PySem.W.codeHdIn K c P=true)(hkt:∀P∈ts,K.lookup P=none)(ha:s₁.heap.get? a=some { cls:=.type "list",data:=.seq vs.toArray })(hi:IntsAre vs ns)(hl:ns.length≤sizeLine)(hr:Room k callerA)(F:∀base:Heap,K.In base→base.Ns mainGlobals mg→BmOk mg base→FnOk P w K mg base CX k fa fd [x] sp)(hbind:∀ (s:Shared) (u:Value),BindsTo s fd ⟨[u],[]⟩ [(x,u)])(hsp:∀H:Hp,rS ts H→SqL K H a (ns.map V.int)→sp [.ref a] H (fun v _=>v=.bl true) fun _ _ _=>False)(hCX:∀H e s',CX [] H s₁ (fun _ _ _=>False) e s'→False):
  codeAny (model P w) callerA (.call (.ref fa) ⟨[.ref a],[]⟩) (fun r s'=>r=.ok (.ret (.bool true))∧OldK s₁.heap s'.heap∧s'.os=s₁.os∧AllBare s'.gens) s₁:=by
 have rv:=kU hi
 have lenV:=hi.length
 have hat:a∉ts:=fun z=>by
  have:=hts a z
  rw[ha] at this;cases this
 have core:∀H:Hp,rS ts H→SqL K H a (ns.map V.int)→HOk P w H s₁.heap→(∀b,H b≠none→b=a∨b∈ts)→(H a≠none→K.lookup a=none)→
   codeAny (model P w) callerA (.call (.ref fa) ⟨[.ref a],[]⟩) (fun r s'=>r=.ok (.ret (.bool true))∧OldK s₁.heap s'.heap∧s'.os=s₁.os∧AllBare s'.gens) s₁:=by
  intro H hO hS hok hA hK
  have base_of:∀ {b:Addr} {o:Obj},s₁.heap.get? b=some o→H b=none→(hidT s₁.heap H).get? b=some o:=fun e n=>aBq e n
  have noA:∀ {b:Addr} {o:Obj},s₁.heap.get? b=some o→(∀v n,o.data≠.seq v n)→(∀v,o.data≠.fields v)→H b=none:=fun {b o} e d1 d2=>by
   cases q:H b with
   |none=>rfl
   |some u=>
    rcases hA b (by rw[q];simp) with e'|e'
    ·subst e'
     rw[ha] at e;cases e
     exact absurd rfl (d1 _ _)
    ·rw[hts b e'] at e;cases e
     exact absurd rfl (d2 _)
  have nsK:∀ {b:Addr} {m:Str→Option Value},s₁.heap.Ns b m→(hidT s₁.heap H).Ns b m:=fun {b m} ⟨o,es,ep,e,d,r⟩=>⟨o,es,ep,base_of e (noA e (by rw[d];intro v n z;cases z) (by rw[d];intro v z;cases z)),d,r⟩
  have hKb:K.In (hidT s₁.heap H):=fun b o e=>base_of (KX b o e) (by
   cases q:H b with
   |none=>rfl
   |some u=>
    rcases hA b (by rw[q];simp) with e'|e'
    ·subst e'
     rw[hK (by rw[q];simp)] at e;cases e
    ·rw[hkt b e'] at e;cases e)
  have hB:BmOk mg (hidT s₁.heap H):=by
   obtain⟨bm,o,b1,b2,b3,b4,b5,b6,b7⟩:=hbm
   exact⟨bm,o,b1,b2,b3,base_of b4 (noA b4 (by rw[b7];intro v n z;cases z) (by rw[b7];intro v z;cases z)),b5,b6,b7⟩
  have hM:Mod K mg (hidT s₁.heap H):=⟨hKb,nsK hns,⟨mb,nsK hb,hbb⟩,let ⟨mc,h1,h2⟩:=hlim;⟨mc,nsK h1,h2⟩⟩
  have e0:Env0 P w K mg (hidT s₁.heap H) callerA [] s₁ H:=⟨rfl,hM,fun b o e=>aCC e,Nat.le_of_eq (aAb _ _),trivial,fun b hb=>absurd (show b∈([]:List Addr) from hb) (by simp),hok,.of_eq hg⟩
  refine codeAny_mono ((F _ hKb (nsK hns) hB).run callerA [] s₁ H ⟨[.ref a],[]⟩ [.ref a] [.ref a] _ _ hr e0 (hbind s₁ (.ref a)) (.cons rfl .nil) (hsp H hO hS)) fun r s' h=>?_
  cases r with
  |error e=>exact(hCX H e s' h).elim
  |ok fl=>
   cases fl with
   |next=>exact False.elim h
   |brk=>exact False.elim h
   |cont=>exact False.elim h
   |ret u=>
    obtain⟨v,H',os,bare,un,hok',r',q⟩:=h
    have q':v=.bl true:=q
    subst q'
    obtain rfl:u=Value.bool true:=r'
    refine⟨rfl,⟨fun b o e=>?_,fun b o e=>un.there b o e (by simp)⟩,os,bare⟩
    cases q:H b with
    |none=>exact .inl (un.keep b o e q (by intro z;exact absurd (show b∈([]:List Addr) from z) (by simp)) (by simp))
    |some u=>
     rcases hO.2 b with z|⟨zt,z⟩|⟨ob,xs,z⟩
     ·rw[q] at z;cases z
     ·obtain⟨more,z2⟩:=un.tbls b _ z
      have e1:=hts b zt
      rw[e] at e1;cases e1
      have e2:s'.heap.get? b=some { cls:=.none,data:=.fields (#[]++more) }:=hok' b _ z2
      obtain⟨c,hc⟩:=hcd b zt
      obtain⟨oc,vsc,_,_,_,_,_,_,_,g1,g2,g3,g4,_⟩:=PySem.W.codeHd_of_K KX hc
      exact .inr (.inl ⟨⟨c,oc,vsc,g1,g2,g3,g4⟩,rfl,#[],more,rfl,e2⟩)
     ·have z2:=un.frzs b ob _ z
      obtain⟨e1,_⟩:=hok b _ z
      obtain⟨e2,_⟩:=hok' b _ z2
      rw[e] at e1;cases e1
      exact .inl e2
 have tabOk:∀ (H:Hp),(∀P∈ts,H P=some (.tbl #[]))→True:=fun _ _=>trivial
 classical
 cases hk:K.lookup a with
 |some o=>
  have e:=KX a o hk
  rw[ha] at e
  cases e
  refine core (fun b=>if b∈ts then some (.tbl #[]) else none) ⟨fun P hP=>if_pos hP,fun b=>?_⟩ (.inr ⟨_,vs.toArray,_,hk,rfl,rfl,rfl,by rw[List.size_toArray,lenV];exact hl,by simpa using rv⟩) (fun b u z=>?_) (fun b z=>?_) fun z=>absurd (if_neg hat) z
  ·by_cases hb:b∈ts
   ·exact .inr (.inl ⟨hb,if_pos hb⟩)
   ·exact .inl (if_neg hb)
  ·by_cases hb:b∈ts
   ·have z':=(if_pos hb).symm.trans z
    cases z'
    exact hts b hb
   ·have z':=(if_neg hb).symm.trans z
    cases z'
  ·by_cases hb:b∈ts
   ·exact .inr hb
   ·exact absurd (if_neg hb) z
 |none=>
  refine core (fun b=>if b=a then some (.frz { cls:=.type "list",data:=.seq vs.toArray } (.lst (ns.map V.int))) else if b∈ts then some (.tbl #[]) else none) ⟨fun P hP=>?_,fun b=>?_⟩ (.inl (.inr ⟨{ cls:=.type "list",data:=.seq vs.toArray },if_pos rfl⟩)) (fun b u z=>?_) (fun b z=>?_) fun _=>hk
  ·have:P≠a:=fun z=>hat (z ▸ hP)
   show (if P=a then _ else if P∈ts then _ else _)=_
   rw[if_neg this,if_pos hP]
  ·by_cases hb:b=a
   ·exact .inr (.inr ⟨_,_,if_pos hb⟩)
   ·by_cases ht:b∈ts
    ·exact .inr (.inl ⟨ht,by show (if b=a then _ else if b∈ts then _ else _)=_;rw[if_neg hb,if_pos ht]⟩)
    ·exact .inl (by show (if b=a then _ else if b∈ts then _ else _)=_;rw[if_neg hb,if_neg ht])
  ·by_cases hb:b=a
   ·have z':=(if_pos hb).symm.trans z
    cases z'
    subst hb
    exact⟨ha,by rw[List.length_map];exact hl,vs,_,rv,ha⟩
   ·have z1:(if b∈ts then some (HO.tbl #[]) else none)=some u:=(if_neg hb).symm.trans z
    by_cases ht:b∈ts
    ·rw[if_pos ht] at z1;cases z1
     exact hts b ht
    ·rw[if_neg ht] at z1;cases z1
  ·by_cases hb:b=a
   ·exact .inl hb
   ·by_cases ht:b∈ts
    ·exact .inr ht
    ·exact absurd (by show (if b=a then _ else if b∈ts then _ else _)=_;rw[if_neg hb,if_neg ht]) z
theorem aBG{l:PySem.W.OpenLaw}{n k:Nat}{q:Program}{loose:List Str}{XP:(Str→Option Value)→Heap→Prop}{YP:World→Heap→Prop}{d:DefRec}{K:Params→PySem.W.Frag}{CX:World→CXT}{sp:World→Sp}{x:Str}{ts:List Addr}(hn:l.most=some n)(hn2:n≤sizeLine)(hdf:d.params.defaults=[])(hr:Room k callerA)(hY:∀ (w:World) (h:Heap),YP w h→(K w.params).In h)(hT:∀ (w:World) (h:Heap),YP w h→∀P∈ts,h.get? P=some (PySem.W.tabObj #[]))(hcd:∀ (w:World),∀P∈ts,∃c,PySem.W.codeHdIn (K w.params) c P=true)(hkt:∀ (w:World),∀P∈ts,(K w.params).lookup P=none)(F:∀ (w:World) (mg:Str→Option Value) (fa:Addr) (h:Heap),(K w.params).In h→h.Ns mainGlobals mg→mg d.name=some (.ref fa)→
   ∃fd:FuncData,(∀ (s:Shared) (u:Value),BindsTo s fd ⟨[u],[]⟩ [(x,u)])∧
    ∀base:Heap,(K w.params).In base→base.Ns mainGlobals mg→BmOk mg base→FnOk l.prog w (K w.params) mg base (CX w) k fa fd [x] (sp w))(hsp:∀ (w:World) (H:Hp) (a:Addr) (ns:List Int),ns.length≤n→rS ts H→SqL (K w.params) H a (ns.map V.int)→sp w [.ref a] H (fun v _=>v=.bl true) fun _ _ _=>False)(hCX:∀ (w:World) (H:Hp) (s:Shared) (e:Value) (s':Shared),CX w [] H s (fun _ _ _=>False) e s'→False):
  PySem.W.WalkO q loose XP YP l.row.toRowW d [] (fun f vs=>PySem.call f vs):=by
 refine Att.attach_call hn hdf fun w s₀ s₁ mg mb fa o pm cd doc a vs ns G Y ho hd hcd' hmg hobj hints hlen hg=>?_
 have KX:=hY w _ Y
 obtain⟨fd,hb,hF⟩:=F w mg fa _ KX G.T.g hmg
 have hB:BmOk mg s₁.heap:=by
  obtain⟨bm,ob,b1,b2,b3,b4,b5,b6⟩:=G.T.bmain
  refine⟨bm,ob,b1,b2,fun z=>?_,b3,b4,b5,b6⟩
  obtain⟨o',es,ep,e,hd',_⟩:=G.T.g
  rw[z,e] at b3;cases b3;rw[hd'] at b6;cases b6
 exact aAJ KX G.T.g G.T.b G.T.builtins G.T.nolimit hg hB (hT w _ Y) (hcd w) (hkt w) hobj hints (Nat.le_trans hlen hn2) hr hF hb (fun H hO hS=>hsp w H a ns hlen hO hS) fun H e s'=>hCX w H s₁ e s'
structure FunC(K:PySem.W.Frag)(x qual:Str)(st:Stmt)(f:Addr)(fd:FuncData)(c:Addr):Prop where
 ex:∃ (oc:Value) (od:Option Addr) (kV doc pm:Value) (an:Option Addr) (ct:Value) (osl:Array (Option Value)),
  fd=PySem.W.fnOf x qual (cS st) (cC st) (aN st) .none kV doc pm an (.ref c) ct∧K.lookup f=some ⟨oc,od,.func fd,osl⟩∧PySem.W.codeIn K (.ref c) qual=true
 kp:PySem.W.keepIn K (.ref f)=true
theorem FunC.fun{K:PySem.W.Frag}{x qual:Str}{st:Stmt}{f:Addr}{fd:FuncData}{c:Addr}(F:FunC K x qual st f fd c):Fun K x qual st f fd:=by
 obtain⟨oc,od,kV,doc,pm,an,ct,osl,e,lk,hcd⟩:=F.ex
 exact⟨⟨oc,od,kV,doc,pm,an,_,ct,osl,e,lk,hcd⟩,F.kp⟩
section
variable {P:Program} {w:World} {K:PySem.W.Frag} {mg:Str→Option Value} {base:Heap}
theorem FunC.ok{x qual:Str}{st:Stmt}{f:Addr}{fd:FuncData}{c:Addr}{N ps:List Str}{k:Nat}{sp:Sp}(F:FunC K x qual st f fd c)(S:aZ N ps (aN st))(len:∀vs H Q E,sp vs H Q E→vs.length=ps.length)(hbody:∀ (A:Around) (outer:List Env) (s:Shared) (H:Hp) (vs:List V) (Q:VK) (E:XK),Room k (A.deeper (envOfC qual (aN st) s.heap.objs.size f (.ref c)))→sp vs H Q E→
   ∃t,PSs (cxOf CX0 P w K mg base N qual (aN st) f (.ref c) A outer s H E).nox (cC st) t∧t { nx:=fun _ H'=>Q .non H',rt:=Q } (start N vs) H):FnOk P w K mg base CX0 (k+1) f fd ps sp:=by
 obtain⟨oc,od,kV,doc,pm,an,ct,osl,rfl,lk,hcd⟩:=F.ex
 refine aCo lk hcd S len fun A outer s H vs Q E hr hsp=>?_
 obtain⟨t,h,q⟩:=hbody A outer s H vs Q E hr hsp
 exact⟨t,h.nox,q⟩
theorem aCR{x qual:Str}{st:Stmt}{f c:Addr}{oc:Value}{od an:Option Addr}{osl:Array (Option Value)}{kV doc pm ct:Value}(l:K.lookup f=some ⟨oc,od,.func (PySem.W.fnOf x qual (cS st) (cC st) (aN st) .none kV doc pm an (.ref c) ct),osl⟩)(hcd:PySem.W.codeIn K (.ref c) qual=true)(kp:PySem.W.keepIn K (.ref f)=true):FunC K x qual st f (PySem.W.fnOf x qual (cS st) (cC st) (aN st) .none kV doc pm an (.ref c) ct) c:=⟨⟨oc,od,kV,doc,pm,an,ct,osl,rfl,l,hcd⟩,kp⟩
theorem aCS{N:List Str}{qual:Str}{scope:Scope}{f c P':Addr}{CX:CXT}{A:Around}{outer:List Env}{s:Shared}{H:Hp}{E:XK}(kb:K.In base)(hb:BmOk mg base)(hc:PySem.W.codeHdIn K c P'=true):
  LamC (cxOf CX P w K mg base N qual scope f (.ref c) A outer s H E).nox c P':=⟨rfl,PySem.W.codeHd_of_K kb hc,hb⟩
end
end L2
namespace L2
open PySem PySem.Spec PyProof.Rows
def mC(sc scX:Scope)(y:Str×NameKind):Bool:=match y.2 with
 |.cell=>(match sc.names.lookup y.1 with|some .cell=>true|_=>false)
 |.local=>(match sc.names.lookup y.1 with|some .local=>true|_=>false)
 |.free=>(match scX.names.lookup y.1 with|some .cell=>true|some .free=>true|_=>false)
 |_=>true
def aAK(NB:List Str)(src:List (Option Nat))(sc:Scope)(N:List Str)(i:Nat):Bool:=match NB[i]?,src[i]? with
 |some x,some (some j)=>(N[j]?==some x)&&(match sc.names.lookup x with|some .free=>true|_=>false)
 |_,_=>true
def wM(sc:Scope):Bool:=match sc.kind with|.function=>true|_=>false
def aAL(NB:List Str)(src:List (Option Nat))(sc scX:Scope)(N:List Str):Bool:=
 wM sc&&decide NB.Nodup&&(src.length==NB.length)&&(sc.names.all (mC sc scX))&&(List.range NB.length).all (aAK NB src sc N)
theorem bH{NB:List Str}{src:List (Option Nat)}{sc:Scope}{X:Cx}(h:aAL NB src sc X.env.scope X.N=true):fQ NB src sc X:=by
 unfold aAL at h
 simp only[Bool.and_eq_true,decide_eq_true_eq,beq_iff_eq,List.all_eq_true] at h
 obtain⟨⟨⟨⟨h1,h2⟩,h3⟩,h4⟩,h5⟩:=h
 refine⟨?_,h2,h3,fun y hy z=>?_,fun y hy z=>?_,fun y hy z=>?_,fun i x j e1 e2=>?_⟩
 ·unfold wM at h1
  split at h1
  ·assumption
  ·cases h1
 ·have:=h4 y hy
  obtain⟨n,k⟩:=y
  obtain rfl:k=.cell:=z
  dsimp only[mC] at this ⊢
  split at this
  ·assumption
  ·cases this
 ·have:=h4 y hy
  obtain⟨n,k⟩:=y
  obtain rfl:k=.local:=z
  dsimp only[mC] at this ⊢
  split at this
  ·assumption
  ·cases this
 ·have:=h4 y hy
  obtain⟨n,k⟩:=y
  obtain rfl:k=.free:=z
  dsimp only[mC] at this ⊢
  split at this
  ·exact .inl (by assumption)
  ·exact .inr (by assumption)
  ·cases this
 ·have hi:i<NB.length:=(List.getElem?_eq_some_iff.mp e1).1
  have:=h5 i (List.mem_range.mpr hi)
  unfold aAK at this
  rw[e1,e2] at this
  simp only[Bool.and_eq_true,beq_iff_eq] at this
  refine⟨this.1,?_⟩
  have t2:=this.2
  split at t2
  ·assumption
  ·cases t2
theorem cJ{K:PySem.W.Frag}{a D:Addr}{xs:List V}{g:TG}{tt:TT}{te:TE}{fin:Hp→Prop}{σB:St}{H0:Hp}(Pv:Nat→List V→St→Hp→Prop)(h0:Pv 0 [] σB H0)(hl:∀i ys σ H,i≤xs.length→Pv i ys σ H→SqL K H a xs)(hs:∀i x ys σ H (Kt:V→St→Hp→Prop) (Kf:St→Hp→Prop),xs[i]?=some x→Pv i ys σ H→
   (∀v σ2 H4,H4 D=some (.lst ys)→ys.length<sizeLine→Pv (i+1) (ys++[v]) σ2 (upd H4 D (.lst (ys++[v])))→Kt v σ2 H4)→(∀σ2 H3,Pv (i+1) ys σ2 H3→Kf σ2 H3)→
   g x σ H fun σ2 H2=>tt σ2 H2 fun b H3=>if b=true then te σ2 H3 fun v H4=>Kt v σ2 H4 else Kf σ2 H3)(hd:∀ys σ H,Pv xs.length ys σ H→fin H):dN (Itl K a) g tt te D fin σB H0:=by
 refine⟨fun i m σ H=>m=xs.length-i∧i≤xs.length∧∃ys,Pv i ys σ H,⟨xs.length,by simp,Nat.zero_le _,[],h0⟩,?_⟩
 rintro i m σ H ⟨rfl,hi,ys,p⟩
 have q:=hl i ys σ H hi p
 by_cases hlt:i<xs.length
 ·refine .inr ⟨⟨xs,xs[i],q,by simp[hlt]⟩,?_⟩
  rintro x H' ⟨rfl,y⟩
  exact hs i x ys σ _ (fun v σ2 H4=>∃ys,H4 D=some (.lst ys)∧ys.length<sizeLine∧∃m',m'<xs.length-i∧m'=xs.length-(i+1)∧i+1≤xs.length∧∃ys',Pv (i+1) ys' σ2 (upd H4 D (.lst (ys++[v]))))
   (fun σ2 H3=>∃m',m'<xs.length-i∧m'=xs.length-(i+1)∧i+1≤xs.length∧∃ys',Pv (i+1) ys' σ2 H3) (y xs q) p
   (fun v σ2 H4 z1 z2 z3=>⟨ys,z1,z2,_,by lia,rfl,hlt,_,z3⟩) (fun σ2 H3 z=>⟨_,by lia,rfl,hlt,_,z⟩)
 ·have e:i=xs.length:=by lia
  subst e
  exact .inl ⟨⟨xs,q,Nat.le_refl _⟩,hd ys σ H p⟩
theorem eE{lo:Int}{n:Nat}{D:Addr}{g:TG}{tt:TT}{te:TE}{fin:Hp→Prop}{σB:St}{H0:Hp}(Pv:Nat→List V→St→Hp→Prop)(h0:Pv 0 [] σB H0)(hs:∀i ys σ H (Kt:V→St→Hp→Prop) (Kf:St→Hp→Prop),i<n→Pv i ys σ H→
   (∀v σ2 H4,H4 D=some (.lst ys)→ys.length<sizeLine→Pv (i+1) (ys++[v]) σ2 (upd H4 D (.lst (ys++[v])))→Kt v σ2 H4)→(∀σ2 H3,Pv (i+1) ys σ2 H3→Kf σ2 H3)→
   g (.int (lo+i)) σ H fun σ2 H2=>tt σ2 H2 fun b H3=>if b=true then te σ2 H3 fun v H4=>Kt v σ2 H4 else Kf σ2 H3)(hd:∀ys σ H,Pv n ys σ H→fin H):dN (Itr lo n) g tt te D fin σB H0:=by
 refine⟨fun i m σ H=>m=n-i∧i≤n∧∃ys,Pv i ys σ H,⟨n,by simp,Nat.zero_le _,[],h0⟩,?_⟩
 rintro i m σ H ⟨rfl,hi,ys,p⟩
 by_cases hlt:i<n
 ·refine .inr ⟨hlt,?_⟩
  rintro x H' ⟨rfl,rfl⟩
  exact hs i ys σ _ (fun v σ2 H4=>∃ys,H4 D=some (.lst ys)∧ys.length<sizeLine∧∃m',m'<n-i∧m'=n-(i+1)∧i+1≤n∧∃ys',Pv (i+1) ys' σ2 (upd H4 D (.lst (ys++[v]))))
   (fun σ2 H3=>∃m',m'<n-i∧m'=n-(i+1)∧i+1≤n∧∃ys',Pv (i+1) ys' σ2 H3) hlt p
   (fun v σ2 H4 z1 z2 z3=>⟨ys,z1,z2,_,by lia,rfl,hlt,_,z3⟩) (fun σ2 H3 z=>⟨_,by lia,rfl,hlt,_,z⟩)
 ·have e:i=n:=by lia
  subst e
  exact .inl ⟨Nat.le_refl _,hd ys σ H p⟩
end L2
namespace L2
open PySem PySem.Spec PyProof.Rows
section
variable {κ:Type} [DecidableEq κ]
def valV(kvs:List (κ×V))(k:κ):Option V:=(kvs.find? fun kv=>decide (kv.1=k)).map (·.2)
def putK(kvs:List (κ×V))(k:κ)(v:V):List (κ×V):=
 if (kvs.any fun kv=>decide (kv.1=k))=true then kvs.map (fun kv=>if kv.1=k then (kv.1,v) else kv) else kvs++[(k,v)]
theorem dH{p:κ×V}{r:List (κ×V)}{k:κ}(e:p.1=k):valV (p::r) k=some p.2:=by simp[valV,List.find?_cons,e]
theorem dI{p:κ×V}{r:List (κ×V)}{k:κ}(e:¬ p.1=k):valV (p::r) k=valV r k:=by simp[valV,List.find?_cons,e]
theorem kB(k:κ):∀kvs:List (κ×V),(kvs.any fun kv=>decide (kv.1=k))=(valV kvs k).isSome
 |[]=>rfl
 |p::r=>by
  rw[List.any_cons]
  by_cases e:p.1=k
  ·simp only[dH e,decide_eq_true e,Bool.true_or,Option.isSome_some]
  ·rw[dI e,decide_eq_false e,Bool.false_or];exact kB k r
theorem tD(k j:κ)(y:V):∀kvs:List (κ×V),valV (kvs.map fun kv=>if kv.1=k then (kv.1,y) else kv) j=(valV kvs j).map fun x=>if j=k then y else x
 |[]=>rfl
 |p::r=>by
  have ih:=tD k j y r
  rw[List.map_cons]
  by_cases h:p.1=k
  ·rw[if_pos h]
   by_cases e:p.1=j
   ·rw[dH (p:=(p.1,y)) e,dH e,Option.map_some,if_pos (e.symm.trans h)]
   ·rw[dI (p:=(p.1,y)) e,dI e,ih]
  ·rw[if_neg h]
   by_cases e:p.1=j
   ·rw[dH (p:=p) e,dH e,Option.map_some,if_neg (fun z=>h (e.trans z))]
   ·rw[dI (p:=p) e,dI e,ih]
theorem qY(k j:κ)(y:V):∀kvs:List (κ×V),valV kvs k=none→valV (kvs++[(k,y)]) j=if j=k then some y else valV kvs j
 |[],_=>by
  by_cases e:k=j
  ·rw[if_pos e.symm];exact dH (p:=(k,y)) e
  ·rw[if_neg (fun z=>e z.symm)];exact dI (p:=(k,y)) e
 |p::r,hn=>by
  rw[List.cons_append]
  have hk:¬ p.1=k:=fun z=>by rw[dH z] at hn;cases hn
  rw[dI hk] at hn
  have ih:=qY k j y r hn
  by_cases e:p.1=j
  ·rw[dH e,dH e,if_neg (fun z=>hk (e.trans z))]
  ·rw[dI e,dI e,ih]
theorem aBH(kvs:List (κ×V))(k j:κ)(y:V):valV (putK kvs k y) j=if j=k then some y else valV kvs j:=by
 unfold putK
 by_cases a:(kvs.any fun kv=>decide (kv.1=k))=true
 ·rw[if_pos a,tD]
  rw[kB] at a
  by_cases e:j=k
  ·obtain⟨x,hx⟩:=Option.isSome_iff_exists.mp a
   rw[if_pos e,e,hx,Option.map_some,if_pos rfl]
  ·rw[if_neg e]
   cases valV kvs j with
   |none=>rfl
   |some x=>rw[Option.map_some,if_neg e]
 ·rw[if_neg a]
  refine qY k j y kvs ?_
  rw[kB] at a
  cases q:valV kvs k with
  |none=>rfl
  |some x=>rw[q] at a;exact(a rfl).elim
theorem vI(kvs:List (κ×V))(k:κ)(v:V):(putK kvs k v).length≤kvs.length+1:=by
 unfold putK
 split
 ·rw[List.length_map];lia
 ·rw[List.length_append,List.length_cons,List.length_nil];lia
theorem RelO.isSome_eq{o:Option V}{u:Option Value}(r:RelO o u):o.isSome=u.isSome:=by
 cases o with
 |none=>cases u with
  |none=>rfl
  |some _=>exact(show False from r).elim
 |some _=>cases u with
  |none=>exact(show False from r).elim
  |some _=>rfl
theorem KV.val{kvs:List (κ×V)}{vs:List (κ×Value)}(r:KV kvs vs)(k:κ):RelO (valV kvs k) (valueAt vs k):=by
 unfold KV at r
 induction r with
 |nil=>exact True.intro
 |@cons p q ps qs h t ih=>
  obtain⟨h1,h2⟩:=h
  by_cases e:p.1=k
  ·have e':q.1=k:=h1.symm.trans e
   have b:valueAt (q::qs) k=some q.2:=by simp[valueAt,List.find?_cons,e']
   rw[dH e,b];exact h2
  ·have e':¬ q.1=k:=fun z=>e (h1.trans z)
   have b:valueAt (q::qs) k=valueAt qs k:=by simp[valueAt,List.find?_cons,e']
   rw[dI e,b];exact ih
end
theorem aCs{P:Program}{w:World}{k:Key}{u:Value}(r:RelV (kV k) u):(bX P w).is k u=true:=by
 cases k with
 |inl i=>obtain⟨t,e⟩:=(show ∃t,u=Value.int i t from r);subst e;exact uY P w i t
 |inr x=>obtain⟨t,e⟩:=(show ∃t,u=Value.str x t from r);subst e;exact uZ P w x t
theorem qZ{P:Program}{w:World}:∀ {ks:List Key} {us:List Value},Vals (ks.map kV) us→ItemsAre (bX P w) ks us
 |[],_,r=>by rw[List.map_nil] at r;cases r;exact .nil
 |k::ks,_,r=>by
  rw[List.map_cons] at r
  cases r with
  |cons h t=>exact .cons (aCs h) (qZ t)
abbrev KT(H:Hp):List (List Key×V)→List (List Key×Addr×Value)→Prop:=Paired fun p q=>p.1=q.1∧H q.2.1=some (.tup (p.1.map kV))∧RelV p.2 q.2.2
theorem KT.val{H:Hp}{kvs:List (List Key×V)}{xs:List (List Key×Addr×Value)}(r:KT H kvs xs)(k:List Key):RelO (valV kvs k) ((atKey xs k).map (·.2)):=by
 induction r with
 |nil=>exact True.intro
 |@cons p q ps qs h t ih=>
  obtain⟨h1,_,h2⟩:=h
  by_cases e:p.1=k
  ·have e':q.1=k:=h1.symm.trans e
   have b:atKey (q::qs) k=some q.2:=by simp[atKey,List.find?_cons,e']
   rw[dH e,b];exact h2
  ·have e':¬ q.1=k:=fun z=>e (h1.trans z)
   have b:atKey (q::qs) k=atKey qs k:=by simp[atKey,List.find?_cons,e']
   rw[dI e,b];exact ih
theorem KT.repl{H:Hp}{kvs:List (List Key×V)}{xs:List (List Key×Addr×Value)}(r:KT H kvs xs)(k:List Key){y:V}{u:Value}(ry:RelV y u):
  KT H (kvs.map fun kv=>if kv.1=k then (kv.1,y) else kv) (xs.map (putAt k u)):=by
 induction r with
 |nil=>exact .nil
 |@cons p q ps qs h t ih=>
  rw[List.map_cons,List.map_cons]
  refine .cons ?_ ih
  obtain⟨h1,h2,h3⟩:=h
  unfold putAt
  by_cases e:p.1=k
  ·rw[if_pos e,if_pos (h1.symm.trans e)];exact⟨h1,h2,ry⟩
  ·rw[if_neg e,if_neg (fun z=>e (h1.trans z))];exact⟨h1,h2,h3⟩
theorem KT.put{H:Hp}{kvs:List (List Key×V)}{xs:List (List Key×Addr×Value)}(r:KT H kvs xs)(k:List Key){b:Addr}{y:V}{u:Value}(hb:H b=some (.tup (k.map kV)))(ry:RelV y u):
  KT H (putK kvs k y) (storedH xs k b u):=by
 have e:(kvs.any fun kv=>decide (kv.1=k))=(atKey xs k).isSome:=by
  rw[kB,(r.val k).isSome_eq,Option.isSome_map]
 unfold putK storedH
 rw[e]
 by_cases q:(atKey xs k).isSome=true
 ·rw[if_pos q,if_pos q];exact r.repl k ry
 ·rw[if_neg q,if_neg q];exact Paired.snoc r ⟨rfl,hb,ry⟩
theorem KT.keeps{H H':Hp}{kvs:List (List Key×V)}{xs:List (List Key×Addr×Value)}(r:KT H kvs xs)(ht:∀b ys,H b=some (.tup ys)→H' b=some (.tup ys)):KT H' kvs xs:=
 Paired.mapP r fun _ _ z=>⟨z.1,ht _ _ z.2.1,z.2.2⟩
section
variable {P:Program} {w:World} {H:Hp} {h:Heap} {a:Addr}
theorem aCt{u:HO}(ok:HOk P w H h)(e:Rd H a u):bW P w H h a u:=e.ok ok
theorem aEG{kvs:List (Key×V)}(ok:HOk P w H h)(e:Rd H a (.dK kvs)):kvs.length≤sizeLine∧(a==sysModules)=false∧∃vs,KV kvs vs∧h.DictOf (bX P w) a vs:=
 show bW P w H h a (.dK kvs) from aCt ok e
theorem jK{ks:List Key}(ok:HOk P w H h)(e:H a=some (.tup (ks.map kV))):(tupleKind (bX P w)).is h ks a:=by
 obtain⟨_,its,r,o,h1,h2,n,h3,_⟩:=(show bW P w H h a (.tup (ks.map kV)) from ok a _ e)
 exact⟨o,its.toArray,n,h1,h2,h3,by simpa using qZ r⟩
theorem aEH{kvs:List (List Key×V)}(ok:HOk P w H h)(e:Rd H a (.dT kvs)):kvs.length≤sizeLine∧(a==sysModules)=false∧
  ∃xs,KT H kvs xs∧h.DictOfH (tupleKind (bX P w)) a xs:=by
 obtain⟨z,y,xs,r,o,es,ep,h1,h2,h3,h4,h5⟩:=(show bW P w H h a (.dT kvs) from aCt ok e)
 refine⟨z,y,xs,r,o,es,ep,h1,h2,h3,h4,fun x hx=>?_,h5⟩
 have all:∀ {l:List (List Key×V)} {m:List (List Key×Addr×Value)},KT H l m→∀x∈m,(tupleKind (bX P w)).is h x.1 x.2.1:=by
  intro l m q
  induction q with
  |nil=>intro x hx;exact nomatch hx
  |@cons p q ps qs hq t ih=>
   intro x hx
   rcases List.mem_cons.mp hx with e|hx
   ·subst e
    exact jK ok (by rw[← hq.1];exact hq.2.1)
   ·exact ih x hx
 exact all r x hx
end
def DGet(H:Hp)(a:Addr)(y:V)(r:Option V):Prop:=
 (∃kvs k,Rd H a (.dK kvs)∧y=kV k∧r=valV kvs k)∨∃kvs k b,Rd H a (.dT kvs)∧y=.ref b∧H b=some (.tup (k.map kV))∧r=valV kvs k
theorem DGet.t{H:Hp}{a b:Addr}{kvs:List (List Key×V)}{k:List Key}(e:H a=some (.dT kvs))(eb:H b=some (.tup (k.map kV))):DGet H a (.ref b) (valV kvs k):=.inr ⟨kvs,k,b,.inl e,rfl,eb,rfl⟩
section
variable {X:Cx} {pins:List (Addr×Obj)} {σ:St} {H:Hp} {s:Shared} {a:Addr} {y v:V} {u r:Value} {o:Option V} {A:Around} {E:Value→Shared→Prop}
theorem d_in{Q:Value→Shared→Prop}(hu:A.units+1<cLine)(I:Inv X pins σ H s)(g:DGet H a y o)(ry:RelV y u)(h:∀s',Inv X pins σ H s'→Q (.bool o.isSome) s'):
  wpAny (model X.prog X.w) A (compareOp .In u (.ref a)) Q E s:=by
 rcases g with ⟨kvs,k,e,ey,l⟩|⟨kvs,k,b,e,ey,eb,l⟩
 ·subst ey
  obtain⟨z,hd,vs,rel,dd⟩:=aEG I.hok e
  refine wpAny_in_of (aCs ry) hd dd.mapOf ?_
  rw[← (rel.val k).isSome_eq,← l]
  exact h _ (I.tok _)
 ·subst ey
  cases (show u=Value.ref b from ry)
  obtain⟨z,hd,xs,rel,dd⟩:=aEH I.hok e
  refine wpAny_in_heap (tupleKind_room_in1 hu) (jK I.hok eb) hd dd ?_
  have q:=(rel.val k).isSome_eq
  rw[Option.isSome_map] at q
  rw[← q,← l]
  exact h _ (I.tok _)
end
section
variable {X:Cx} {pins:List (Addr×Obj)} {σ:St} {H:Hp} {s:Shared} {a:Addr} {kvs:List (Key×V)} {k:Key} {u:Value} {A:Around} {E:Value→Shared→Prop}
end
def tDIn(ty td:TE):TE:=fun σ H Q=>ty σ H fun y H1=>td σ H1 fun x H2=>∃a o,x=.ref a∧DGet H2 a y o∧Q (.bl o.isSome) H2
section
variable {X:Cx} {o i e value:Expr} {pos pos' tpos:Pos} {td ty tv:TE}
theorem aD0(hu:X.A.units+1<cLine)(hi:PE X i ty)(ho:PE X o td):PC X .In i o (tDIn ty td):=by
 intro pins s σ H Q I h
 refine thn (hi pins s σ H _ I h) fun iv s1 ⟨y,H1,I1,ry,q1⟩=>thn (ho pins s1 σ H1 _ I1 q1) fun u s2 ⟨x,H2,I2,rx,a,ov,ex,g,q2⟩=>?_
 subst ex
 obtain rfl:u=Value.ref a:=rx
 exact d_in hu I2 g ry fun s3 I3=>⟨.bl ov.isSome,H2,I3,rfl,q2⟩
end
section
variable {X:Cx} {pos:Pos}
end
section
variable {X:Cx} {pins:List (Addr×Obj)} {σ:St} {H:Hp} {s:Shared} {a:Addr} {y d:V} {u r:Value} {o:Option V} {A:Around} {E:Value→Shared→Prop}
end
section
variable {X:Cx} {o e f:Expr} {apos cpos:Pos} {td ty tx:TE}
end
section
variable {X:Cx} {pins:List (Addr×Obj)} {σ:St} {H:Hp} {s:Shared} {a:Addr} {kvs:List (Key×V)} {A:Around} {E:Value→Shared→Prop}
end
section
variable {X:Cx} {pins:List (Addr×Obj)} {σ:St} {H:Hp} {s:Shared} {a:Addr} {y:V} {u:Value} {A:Around} {E:Value→Shared→Prop}
end
end L2
namespace L2
open PySem PySem.Spec PyProof.Rows
section
variable {X:Cx}
end
section
variable {κ:Type} [DecidableEq κ]
end
end L2
namespace L2
open PySem PySem.Spec PyProof.Rows
section
variable {X:Cx}
theorem oI{x:V}:∀ {xs:List V} {its:List Value},Vals xs its→xs.all dC=true→its.countP (eqU x)=xs.countP (fun z=>eqV z x)
 |[],_,.nil,_=>rfl
 |y::xs,_,.cons (b:=u) r rr,f=>by
  have fy:dC y=true:=by rw[List.all_cons,Bool.and_eq_true] at f;exact f.1
  have fx:xs.all dC=true:=by rw[List.all_cons,Bool.and_eq_true] at f;exact f.2
  have h1:[u].any (eqU x)=[y].any (fun z=>eqV z x):=lY (.cons r .nil) (by simp[fy])
  have h2:eqU x u=eqV y x:=by simpa using h1
  rw[List.countP_cons,List.countP_cons,oI rr fx,h2]
def aAM:V→List V→Hp→VK→Prop:=fun x vs H Q=>∃ (l:Addr) (xs:List V) (y:V),x=.ref l∧vs=[y]∧H l=some (.lst xs)∧dC y=true∧xs.all dC=true∧Q (.int (xs.countP fun z=>eqV z y)) H
theorem aBI:MtM X "list.count" aAM:=by
 intro pins s σ H x vs v us Q I rx rv h
 obtain⟨l,xs,y,rfl,rfl,hH,fy,fs,q⟩:=h
 cases rx
 obtain⟨u,rfl,ru⟩:=rv.one
 obtain⟨z,its,n,r,hl,e⟩:=I.lstM hH
 refine call_meets F.slot_list_count ⟨_,e,rfl⟩ F.entry_list_count (F.args_list_count_2 _ _) (SeqAt.list_countAt l its.toArray n none #[] u (eqU y)) ⟨e,fun w hw=>jY ru fy r fs w (by simpa using hw),?_⟩
 refine⟨.int _,H,I.tok _,⟨s.toks,?_⟩,q⟩
 rw[show its.toArray.toList=its by simp,oI r fs]
end
end L2
namespace L2
open PySem PySem.Spec PyProof.Rows
theorem Inv.turned2{X:Cx}{pins:List (Addr×Obj)}{σ:St}{H:Hp}{s:Shared}{h':Heap}{e it p:Addr}{t':Nat}{xs:List V}{its:List Value}(I:Inv X pins σ H s)(fe:FpOk X pins H e)(fi:FpOk X pins H it)(k:∀b o,b≠e→b≠it→s.heap.get? b=some o→h'.get? b=some o)(ke:∃o,h'.get? e=some o)(ki:∃o,h'.get? it=some o)(hp:s.heap.objs.size≤p)(hl:xs.length≤sizeLine)(r:Vals xs its)(ht:h'.get? p=some { cls:=.type "tuple",data:=.seq its.toArray }):Inv X pins σ (upd H p (.tup xs)) { s with heap:=h',toks:=t' }:=by
 have hn:=I.hok.fresh hp
 obtain⟨e0,e1,e2,e3,e4,e5⟩:=fe
 obtain⟨i0,i1,i2,i3,i4,i5⟩:=fi
 have ne:∀b o,s.heap.get? b=some o→b≠p:=fun b o q=>Nat.ne_of_lt (Nat.lt_of_lt_of_le (Heap.lt_size q) hp)
 have keepN:∀b o,H b=some o→b≠e∧b≠it:=fun b o q=>⟨(fun z=>by rw[z,e0] at q;cases q),(fun z=>by rw[z,i0] at q;cases q)⟩
 refine I.step (g':=s.gens) (d':=s.drawn) (ch:=[e,it]) (fun b hb=>?_) (fun b o _ _ hb q _=>?_) (fun b o _ _ hb q _=>⟨o.slots,?_⟩) (fun b o hb q n=>by rw[aF (ne b o q)];exact n) (fun b o hb q=>⟨o,?_⟩)
  (fun b ys q=>by rw[aF (aH q hn)];exact q) (fun b o u q=>by rw[aF (aH q hn)];exact q) (fun b ps q=>⟨#[],by rw[aF (aH q hn),q];simp⟩) (fun m hm=>?_) (fun b o q=>?_) I.bare
 ·rcases List.mem_cons.mp hb with rfl|hb
  ·exact⟨e3,e1,e4,e5⟩
  ·rw[List.mem_singleton.mp hb];exact⟨i3,i1,i4,i5⟩
 ·exact k b o (fun z=>hb (z ▸ List.mem_cons_self)) (fun z=>hb (z ▸ List.mem_cons_of_mem _ List.mem_cons_self)) q
 ·exact k b o (fun z=>hb (z ▸ List.mem_cons_self)) (fun z=>hb (z ▸ List.mem_cons_of_mem _ List.mem_cons_self)) q
 ·exact k b o (fun z=>hb (z ▸ List.mem_cons_self)) (fun z=>hb (z ▸ List.mem_cons_of_mem _ List.mem_cons_self)) q
 ·obtain⟨o,es,ep,q,d,r'⟩:=hm
  exact⟨o,es,ep,k _ _ e1.symm i1.symm q,d,r'⟩
 ·by_cases hb:b=p
  ·subst hb
   rw[aB] at q;cases q
   exact⟨hl,its,r,_,ht,rfl,_,rfl,rfl⟩
  ·rw[aF hb] at q
   refine(I.hok b o q).stay (fun c u hc z=>k c u ?_ ?_ z) (fun c z=>by rw[aF (aH z hn)];exact z) fun c ys z=>by rw[aF (aH z hn)];exact z
   ·rcases hc with rfl|hc
    ·exact(keepN _ _ q).1
    ·exact(keepN _ _ hc).1
   ·rcases hc with rfl|hc
    ·exact(keepN _ _ q).2
    ·exact(keepN _ _ hc).2
end L2
namespace L2
open PySem PySem.Spec PyProof.Rows
section
variable {X:Cx}
end
end L2
namespace L2
open PySem PySem.Spec PyProof.Rows
section
variable {prog:Program} {w:World} {A:Around} {E:Value→Shared→Prop} {s:Shared}
theorem kC{it t:Addr}{i:Nat}{xs:Array Value}{x:Value}{Q:Value→Shared→Prop}(hit:s.heap.IsTupleIter it t i)(ht:s.heap.IsTuple t xs)(hx:xs[i]?=some x)(q:∀h',h'.IsTupleIter it t (i+1)→Heap.SameBut it s.heap h'→Q x { s with heap:=h' }):wpAny (model prog w) A (Builtin.SmallTypes.nextOf (.ref it)) Q E s:=by
 obtain⟨o,h1,h2,h3⟩:=id hit
 obtain⟨p,k1,_,n,k3⟩:=ht
 unfold Builtin.SmallTypes.nextOf
 refine wpAny_bind (wpAny_callSpecial?_slot (name:=Str.ofString "__next__") hit.typeIs F.slot_tuple_iterator_next (wpAny_call_entry F.slot_tuple_iterator_next hit.typeIs F.entry_tuple_iterator_next ?_ (F.args_tuple_iterator_next_1 _)))
 change wpAny _ _ (field (.ref it) 0 >>= _) _ _ s
 refine wpAny_bind (wpAny_field h1 h3 (x:=.ref t) rfl ?_)
 change wpAny _ _ (if (Value.ref t==Value.none)=true then _ else _) _ _ s
 rw[if_neg (by exact Bool.false_ne_true)]
 change wpAny _ _ (field (.ref it) 1 >>= _) _ _ s
 refine wpAny_bind (wpAny_field h1 h3 (x:=.int i 0) rfl ?_)
 change wpAny _ _ (seqItems? (.ref t) >>= _) _ _ s
 refine wpAny_bind (wpAny_seqItems k1 k3 ?_)
 simp only[Int.toNat_natCast,hx]
 refine wpAny_bind (wpAny_setField h1 h3 (by simp) (wpAny_pure ⟨x,rfl,wpAny_pure (q _ ?_ (Heap.SameBut.update ..))⟩))
 refine⟨_,Heap.get?_update_self _ h1 (Obj.isFreed_of_fields (Obj.data_mapFields h3 _)),(Obj.cls_mapFields ..).trans h2,?_⟩
 rw[Obj.data_mapFields h3];simp[rawInt]
theorem lD{it t:Addr}{i:Nat}{xs:Array Value}{Q:Value→Shared→Prop}(hh:A.handled=none)(hit:s.heap.IsTupleIter it t i)(ht:s.heap.IsTuple t xs)(hx:xs[i]?=none)(q:∀h' e,Heap.ExtBut it s.heap h'→(∃o,h'.get? e=some o∧o.cls=.type "StopIteration")→E (.ref e) { s with heap:=h' }):wpAny (model prog w) A (Builtin.SmallTypes.nextOf (.ref it)) Q E s:=by
 obtain⟨o,h1,h2,h3⟩:=id hit
 obtain⟨p,k1,_,n,k3⟩:=ht
 unfold Builtin.SmallTypes.nextOf
 refine wpAny_bind (wpAny_callSpecial?_slot (name:=Str.ofString "__next__") hit.typeIs F.slot_tuple_iterator_next (wpAny_call_entry F.slot_tuple_iterator_next hit.typeIs F.entry_tuple_iterator_next ?_ (F.args_tuple_iterator_next_1 _)))
 change wpAny _ _ (field (.ref it) 0 >>= _) _ _ s
 refine wpAny_bind (wpAny_field h1 h3 (x:=.ref t) rfl ?_)
 change wpAny _ _ (if (Value.ref t==Value.none)=true then _ else _) _ _ s
 rw[if_neg (by exact Bool.false_ne_true)]
 change wpAny _ _ (field (.ref it) 1 >>= _) _ _ s
 refine wpAny_bind (wpAny_field h1 h3 (x:=.int i 0) rfl ?_)
 change wpAny _ _ (seqItems? (.ref t) >>= _) _ _ s
 refine wpAny_bind (wpAny_seqItems k1 k3 ?_)
 simp only[Int.toNat_natCast,hx]
 refine wpAny_bind (wpAny_rule (wpAny_bind (wpAny_setField h1 h3 (by simp) ?stop)))
 case stop=>
  change wpAny _ _ (newExc (.type "StopIteration") [] >>= _) _ _ _
  refine wpAny_bind ?_
  simp only[newExc,newTuple]
  refine wpAny_bind (wpAny_newObj_type (wpAny_bind (m:=firstArgMember _ _) (wpAny_of_eq (a:=Value.none) (by simp only[firstArgMember];rfl) (wpAny_newObj_type ?_ (by size_fits)))) (by size_fits))
  simp only[raiseNew]
  refine wpAny_bind (wpAny_handled ?_)
  rw[show A.in1.handled=none from hh]
  exact wpAny_bind (wpAny_pure (wpAny_throw (q _ _ (fun b u hb z=>Heap.get?_push_of_some _ (Heap.get?_push_of_some _ ((Heap.get?_update_other _ _ (Ne.symm hb)).trans z))) ⟨_,Heap.get?_push_size _ rfl,rfl⟩)))
theorem vJ(hh:A.handled=none)(it t:Addr)(hne:t≠it)(xs:Array Value):Draws prog w A it [it,t] xs.size (fun i v=>xs[i]?=some v) (fun i h=>h.IsTupleIter it t i∧h.IsTuple t xs) where
 live:=fun _ _ st=>let ⟨o,ho,_⟩:=st.1;⟨o,ho⟩
 frame:=fun _ _ _ st hk=>⟨st.1.at fun o e=>hk it (by simp) o e,let ⟨o,e,r⟩:=st.2;⟨o,hk t (by simp) o e,r⟩⟩
 item:=fun i s Q E hi st q=>by
  refine kC st.1 st.2 (x:=xs[i]) (by simp[hi]) fun h' a b=>?_
  obtain⟨o,e,r⟩:=st.2
  exact q _ h' s.toks (by simp[hi]) ⟨a,o,(b.2 t hne).trans e,r⟩ b
 done:=fun s Q E st q=>lD hh st.1 st.2 (by simp) q
end
end L2
namespace L2
open PySem PySem.Spec PyProof.Rows
theorem aAN (t : Addr) (xs : Array Value) :
    Meets (Builtin.«enumerate.__new__» ⟨[.type "enumerate", .ref t], []⟩) (fun _ R s => s.heap.IsTuple t xs ∧
      R (.ok (.ret (.ref (s.heap.push { cls := .type "tuple_iterator", data := .fields #[.ref t, .int 0 0] }).objs.size)))
        { s with heap := (s.heap.push { cls := .type "tuple_iterator", data := .fields #[.ref t, .int 0 0] }).push { cls := .type "enumerate", data := .fields #[.none, .bool false, .ref s.heap.objs.size, rawInt 0, .none, .none] } }) :=
  .of_wp fun prog w A R s h => by
    obtain ⟨hp, g, d, tk, os⟩ := s
    obtain ⟨hT, h⟩ := h
    have hs := sub_enumerate
    wp_walk
    refine wpAny_stack_any fun st => wpAny_pure ?_
    split
    · rename_i c _ _ _ _ _
      cases (c == Value.type "enumerate") <;> · wp_walk using wpAny_pyIter_tuple hT
                                                exact ⟨_, rfl, h⟩
    · wp_walk using wpAny_pyIter_tuple hT
      exact ⟨_, rfl, h⟩
theorem yO{prog:Program}{w:World}{A:Around}{E:Value→Shared→Prop}{s:Shared}{t:Addr}{xs:Array Value}{Q:Value→Shared→Prop}(ht:s.heap.IsTuple t xs)(h:∀h',IsEnum h' (s.heap.objs.size+1) s.heap.objs.size 0 .none→h'.IsTupleIter s.heap.objs.size t 0→(∀b o,s.heap.get? b=some o→h'.get? b=some o)→Q (.ref (s.heap.objs.size+1)) { s with heap:=h' }):
  wpAny (model prog w) A (call (.type "enumerate") [.ref t]) Q E s:=by
 refine callType_new F.called_enumerate (by decide) (F.typeCall_enumerate_1 _) (F.newCall_enumerate_1 _) (fun obj=>F.args_object_init_2 obj _) F.entry_enumerate_new (aAN t xs) ⟨ht,?_⟩
 have hz:(s.heap.push { cls:=.type "tuple_iterator",data:=.fields #[.ref t,.int 0 0] }).objs.size=s.heap.objs.size+1:=Heap.size_push ..
 have he:IsEnum ((s.heap.push { cls:=.type "tuple_iterator",data:=.fields #[.ref t,.int 0 0] }).push
   { cls:=.type "enumerate",data:=.fields #[.none,.bool false,.ref s.heap.objs.size,rawInt 0,.none,.none] }) (s.heap.objs.size+1) s.heap.objs.size 0 .none:=by
  have q:=Heap.get?_push_size (s.heap.push { cls:=.type "tuple_iterator",data:=.fields #[.ref t,.int 0 0] }) (o:={ cls:=.type "enumerate",data:=.fields #[.none,.bool false,.ref s.heap.objs.size,rawInt 0,.none,.none] }) rfl
  rw[hz] at q;exact q
 show _∧_
 rw[hz]
 exact⟨⟨_,he,rfl⟩,h _ he ⟨_,Heap.get?_push_of_some _ (Heap.get?_push_size _ rfl),rfl,rfl⟩ fun b o x=>Heap.get?_push_of_some _ (Heap.get?_push_of_some _ x)⟩
def IteT(K:PySem.W.Frag)(a:Addr):It:=
 ⟨fun i H=>∃xs x,SqT K H a xs∧xs[i]?=some x,fun i H x H'=>∃p v,x=.ref p∧H p=none∧H'=upd H p (.tup [.int i,v])∧∀xs,SqT K H a xs→xs[i]?=some v,fun i H=>∃xs,SqT K H a xs∧xs.length≤i⟩
theorem yP{P:Program}{w:World}{K:PySem.W.Frag}{es:List Expr}{x1:Nat}{pos:Pos}(a e it:Addr)(hne:e≠it)(hae:a≠e)(hai:a≠it):
  Turn P w K (.Tuple es x1 pos) (IteT K a) [e,it] e (fun i h=>(∃old,IsEnum h e it (i:Int) old)∧h.IsTupleIter it a i) where
 mem:=by simp
 obj:=fun i h st b hb=>by
  obtain⟨⟨old,he⟩,⟨o,q,c,d⟩⟩:=st
  rcases List.mem_cons.mp hb with rfl|hb
  ·exact⟨_,he,fun v z=>by
    have z':Data.fields _=Data.cell v:=z
    cases z'⟩
  ·rw[List.mem_singleton.mp hb]
   exact⟨o,q,fun v z=>by rw[d] at z;cases z⟩
 keep:=fun i h h' st k=>by
  obtain⟨⟨old,he⟩,hi⟩:=st
  exact⟨⟨old,k e (by simp) _ he⟩,hi.at fun o q=>k it (by simp) o q⟩
 item:=by
  intro X hP hw hK hc i pins s σ H E I hf st hg
  subst hP hw hK
  obtain⟨xs,x,hq,hx⟩:=hg
  obtain⟨its,rv,p,hz⟩:=I.tuple hq
  obtain⟨u,hu,ru⟩:=rv.get hx
  obtain⟨⟨old,he⟩,hi⟩:=st
  have hlt:i<its.toArray.size:=by
   have:=(List.getElem?_eq_some_iff.mp hu).1
   simpa using this
  have D:=vJ (prog:=X.prog) (w:=X.w) (A:=X.A.in1) (I.ok.hd hc) it a hai its.toArray
  refine wpAny_pyNext_enum_itemD D he ⟨hi,p⟩ hlt hne (by simp[hne,hae.symm]) fun u' h' tk hu' ho hst ht hsz k=>?_
  have eu:u'=u:=by
   have h1:its.toArray[i]?=some u:=by simpa using hu
   rw[h1] at hu'
   exact(Option.some.inj hu').symm
  subst eu
  refine⟨_,rfl,wpAny_letOwnedTupleGo_enum ho fun h2 he2 hs2=>?_⟩
  have hpe:s.heap.objs.size≠e:=Nat.ne_of_gt (Heap.lt_size he)
  have hi2:h2.IsTupleIter it a (i+1):=hst.1.at fun o q=>(hs2.2 it hne.symm).trans q
  have fe:=hf e (by simp)
  have fi:=hf it (by simp)
  have I2:Inv X pins σ (upd H s.heap.objs.size (.tup [.int i,x])) { s with heap:=h2,toks:=tk+1 }:=by
   refine I.turned2 (its:=[.int i tk,u']) fe fi (fun b o h1 h3 q=>(hs2.2 b h1).trans (k b o h1 h3 q)) ⟨_,he2⟩ ?_ (Nat.le_refl _) (by show 2≤sizeLine;decide) (.cons ⟨_,rfl⟩ (.cons ru .nil)) ((hs2.2 _ hpe).trans ht)
   obtain⟨o,q,_⟩:=hi2
   exact⟨o,q⟩
  refine⟨.ref s.heap.objs.size,_,I2,rfl,⟨_,x,rfl,I.hok.fresh (Nat.le_refl _),rfl,fun ys hy=>by rw[I.tuple_inj hy hq];exact hx⟩,⟨⟨u',he2⟩,hi2⟩,fun b hb=>?_⟩
  have f0:=(hf b hb).1
  rw[aF]
  ·exact f0
  ·rcases List.mem_cons.mp hb with rfl|hb
   ·exact hpe.symm
   ·rw[List.mem_singleton.mp hb]
    obtain⟨o,q,_⟩:=hi
    exact Nat.ne_of_lt (Heap.lt_size q)
 done:=by
  intro X hP hw hK hc i pins s σ H E I hf st hg
  subst hP hw hK
  obtain⟨xs,hq,hx⟩:=hg
  obtain⟨its,rv,p,hz⟩:=I.tuple hq
  obtain⟨f0,f1,f2,f3,f4,f5⟩:=hf it (by simp)
  obtain⟨⟨old,he⟩,hi⟩:=st
  have hl:=rv.length
  unfold pyNext
  have hT:s.TypeIs (.ref e) "enumerate":=⟨_,he,rfl⟩
  refine wpAny_bind (wpAny_attempt (wpAny_callSpecial?_slot (name:=Str.ofString "__next__") hT F.slot_enumerate_next (wpAny_call_entry F.slot_enumerate_next hT F.entry_enumerate_next ?_ (F.args_enumerate_next_1 _))))
  change wpAny _ _ (field (.ref e) 2 >>= _) _ _ _
  refine wpAny_bind (wpAny_field he rfl (x:=.ref it) rfl (wpAny_bind (lD (I.ok.hd hc) hi p (by simp;lia) fun h' x eb hx'=>?_)))
  obtain⟨o,ho,hcl⟩:=hx'
  exact wpAny_bind (wpAny_isInstance (T:="StopIteration") (b:=true) ⟨o,ho,hcl⟩ isSubtype_stop (wpAny_pure ⟨rfl,I.turned (t':=s.toks) (fun b o hb e=>eb b o hb e) f0 f1 f3 f4 f5⟩))
 self:=fun _ _ _ _ _ st h=>by
  obtain⟨⟨old,he⟩,_⟩:=st
  exact wpAny_pyIter_enum he h
end L2
namespace L2
open PySem PySem.Spec PyProof.Rows
section
variable {X:Cx}
def aD1(K:PySem.W.Frag)(ta:TA):TI:=fun σ H R=>ta σ H fun vs H1=>∃a xs,vs=[.ref a]∧SqT K H1 a xs∧R (IteT K a) H1
theorem aBJ{es:List Expr}{x1:Nat}{tpos:Pos}{a:Expr}{ta:TA}{p pos:Pos}(hg:Gl X "enumerate")(hm:X.mg "enumerate"=none)(ha:PA X [a] ta)(hs:starEach [a] X.env=[(false,eval a X.env)]:=by rfl):
  PI X (.Tuple es x1 tpos) (.Call (.Name "enumerate" p) [a] [] pos) (aD1 X.K ta):=by
 intro pins s σ H R I h
 refine Call_ (gY I hg hm (by decide +kernel:bootBuiltins "enumerate"=some (.type "enumerate")) (PyProof.Rows.callWith_type1 (thn (ha pos pins s σ H _ I h) fun us s1 ⟨vs,H1,I1,r1,q1⟩=>?_) hs rfl))
 obtain⟨l,xs,rfl,hl,q⟩:=q1
 obtain⟨u1,rfl,ru1⟩:=r1.one
 obtain rfl:u1=Value.ref l:=ru1
 obtain⟨its,rv,pt,hz⟩:=I1.tuple hl
 have hlt:l<s1.heap.objs.size:=by obtain⟨o,e,_⟩:=pt;exact Heap.lt_size e
 refine yO (show s1.heap.IsTuple l its.toArray from pt) fun h' he hi k=>?_
 have hne:s1.heap.objs.size+1≠s1.heap.objs.size:=Nat.succ_ne_self _
 refine wpAny_pyIter_enum he ?_
 have I2:Inv X pins σ H1 { s1 with heap:=h' }:=I1.kept (t':=s1.toks) k
 refine⟨s1.heap.objs.size+1,[s1.heap.objs.size+1,s1.heap.objs.size],_,_,H1,rfl,I2,yP l _ _ hne (Nat.ne_of_lt (Nat.lt_succ_of_lt hlt)) (Nat.ne_of_lt hlt),⟨⟨_,he⟩,hi⟩,fun b hb=>?_,q⟩
 have hb':s1.heap.objs.size≤b:=by
  rcases List.mem_cons.mp hb with rfl|hb
  ·exact Nat.le_succ _
  ·rw[List.mem_singleton.mp hb];exact Nat.le_refl _
 exact I1.fpOk hb' (I1.hok.fresh hb')
theorem aAO{K:PySem.W.Frag}{a:Addr}{xs:List V}{g:TG}{tb:TS}{D:Ends}{σ:St}{H:Hp}(Pv:Nat→St→Hp→Prop)(h0:Pv 0 σ H)(hl:∀i σ H,i≤xs.length→Pv i σ H→SqT K H a xs)(hs:∀i x p σ H,xs[i]?=some x→Pv i σ H→H p=none→g (.ref p) σ (upd H p (.tup [.int i,x])) fun σ2 H2=>tb { D with nx:=Pv (i+1),ct:=Pv (i+1),bk:=D.nx } σ2 H2)(hd:∀σ H,Pv xs.length σ H→D.nx σ H):
  ∃W:Nat→Nat→St→Hp→Prop,(∃m,W 0 m σ H)∧∀i m σ H,W i m σ H→
   ((IteT K a).stop i H∧D.nx σ H)∨((IteT K a).go i H∧∃N:St→Hp→Prop,(∀σ' H',N σ' H'→∃m',m'<m∧W (i+1) m' σ' H')∧∀x H',(IteT K a).yld i H x H'→g x σ H' fun σ2 H2=>tb { D with nx:=N,ct:=N,bk:=D.nx } σ2 H2):=by
 refine⟨fun i m σ H=>m=xs.length-i∧i≤xs.length∧Pv i σ H,⟨xs.length,by simp,Nat.zero_le _,h0⟩,?_⟩
 rintro i m σ H ⟨rfl,hi,p⟩
 have q:=hl i σ H hi p
 by_cases hlt:i<xs.length
 ·refine .inr ⟨⟨xs,xs[i],q,by simp[hlt]⟩,Pv (i+1),fun σ' H' p'=>⟨xs.length-(i+1),by lia,rfl,hlt,p'⟩,fun x H' y=>?_⟩
  obtain⟨pp,v,rfl,hn,rfl,hv⟩:=y
  exact hs i v pp σ _ (hv xs q) p hn
 ·have e:i=xs.length:=by lia
  subst e
  exact .inl ⟨⟨xs,q,Nat.le_refl _⟩,hd σ H p⟩
end
end L2
namespace L2
open PySem PySem.Spec PyProof.Rows
section
variable {X:Cx} {tg:Expr}
end
end L2
namespace L2
open PySem PySem.Spec PyProof.Rows
theorem tE:typeLookup (.type "list") "keys"=pure none:=by rw[typeLookup_type,builtinLookup_eq_fast];kernel_rfl
theorem oJ:typeLookup (.type "list") "__getattr__"=pure none:=by rw[typeLookup_type,builtinLookup_eq_fast];kernel_rfl
theorem pO(l:Addr)(u:Tok)(items:Array Value)(n:Nat):
  Meets (Builtin.«object.__getattribute__» ⟨[.ref l,.str "keys" u],[]⟩) (fun A R s=>s.heap.get? l=some { cls:=.type "list",data:=.seq items n }∧raisesAttr (.ref l) "keys" A R s):=
 Meets.of_wp fun prog w A R s hs=>by
  obtain⟨hp,g,d,tk,os⟩:=s
  obtain⟨hl,hs⟩:=hs
  have hT:(⟨hp,g,d,tk,os⟩:Shared).TypeIs (.ref l) "list":=⟨_,hl,rfl⟩
  have f1:=tE
  unfold Builtin.«object.__getattribute__»
  repeat (any_goals (first|assumption|wp_step))
  exact wpAny_raiseAttrError hs.1 hs.2 (attrMsg_fits (by decide +kernel) (by decide +kernel))
theorem aD2{prog:Program}{w:World}{A:Around}{E:Value→Shared→Prop}{s:Shared}{l:Addr}{items:Array Value}{n:Nat}{Q:Option Value→Shared→Prop}(hA:A.handled=none)(hl:s.heap.get? l=some { cls:=.type "list",data:=.seq items n })(h:∀h' tk,(∀b o,s.heap.get? b=some o→h'.get? b=some o)→Q none { s with heap:=h',toks:=tk }):wpAny (model prog w) A (getAttr? (.ref l) "keys") Q E s:=by
 obtain⟨hp,g,d,tk,os⟩:=s
 have hT:∀tk,(⟨hp,g,d,tk,os⟩:Shared).TypeIs (.ref l) "list":=fun _=>⟨_,hl,rfl⟩
 have f1:=sub_AttributeError
 have f3:=F.slot_list_getattribute.lookup
 have f4:=F.slot_list_getattribute.bind (.ref l)
 have f5:=oJ
 unfold getAttr? getAttrBy?
 refine wpAny_bind (wpAny_mkText ?_)
 refine wpAny_bind (wpAny_attempt ?_)
 unfold getAttrBy
 repeat (any_goals (first|assumption|((with_reducible show wpAny _ _ (call (Value.builtin "list.__getattribute__") _ _) _ _ _);refine call_meets F.slot_list_getattribute (hT _) F.entry_list_ga (F.args_list_getattribute_2 _ _) (pO l _ items n) ⟨hl,hA,fun h' tk' e hx=>?_⟩)|wp_step))
 obtain⟨t',u',he⟩:=hx.there
 show wpAny _ _ (getattributeRaised _ _ _ _ _ _ _) _ _ _
 unfold getattributeRaised
 repeat (any_goals (first|assumption|wp_step))
 exact h _ _ hx.keeps
end L2
namespace L2
open PySem PySem.Spec PyProof.Rows
theorem mV:entryFor table "dict.update.loop"=some Builtin.«dict.update.loop»:=entryFor_of_tree (by kernel_rfl)
theorem gW:plainId "dict.update.loop"=true:=by decide +kernel
section
variable {prog:Program} {w:World} {A:Around} {E:Value→Shared→Prop} {s:Shared} {R:Result→Shared→Prop} {l d Ia:Addr}
end
end L2
namespace L2
open PySem PySem.Spec PyProof.Rows
section
variable {prog:Program} {w:World} {A:Around} {E:Value→Shared→Prop} {s:Shared} {l:Addr}
end
end L2
namespace L2
open PySem PySem.Spec PyProof.Rows
section
variable {X:Cx}
end
end L2
namespace L2
open PySem PySem.Spec PyProof.Rows
section
variable {X:Cx}
theorem aAP(hc:X.calm=true):cW X (.builtin "all") (fun xs H Q=>∃ (p:Addr) (bs:List Bool),xs=[.ref p]∧SqL X.K H p (bs.map V.bl)∧Q (.bl (bs.all id)) H):=by
 intro pins s σ H xs us Q I r h
 obtain⟨p,bs,rfl,hp,q⟩:=h
 obtain⟨u1,rfl,r1⟩:=r.one
 obtain rfl:u1=Value.ref p:=r1
 obtain⟨its,rv,pl,hz⟩:=I.list hp
 have hits:its=bs.map Value.bool:=by
  have go:∀ (bs:List Bool) (its:List Value),Vals (bs.map V.bl) its→its=bs.map Value.bool:=by
   intro bs
   induction bs with
   |nil=>intro its r;cases r;rfl
   |cons b bs ih=>
    intro its r
    cases r with
    |cons r rr=>
     obtain rfl:=(show _=Value.bool b from r)
     rw[ih _ rr];rfl
  exact go bs its rv
 subst hits
 obtain⟨ob,hob,_⟩:=id pl.isList
 have hlt:p<s.heap.objs.size:=Heap.lt_size hob
 refine call_all_walk (wpAny_pyIter_list pl.isList ⟨s.heap.objs.size,_,_,_,_,_,fun i=>bs.getD i true,rfl,Walks.list (show X.A.in1.handled=none from I.ok.hd hc) _ p (Nat.ne_of_lt hlt) _,⟨⟨_,Heap.get?_push_size _ rfl,rfl,rfl⟩,pl.isList.push _⟩,fun i v s1 Q' E' hv hq=>?_,fun h' tk k=>?_⟩)
 ·have hv':(bs.map Value.bool)[i]?=some v:=by simpa using hv
  rw[List.getElem?_map] at hv'
  cases eb:bs[i]? with
  |none=>rw[eb] at hv';cases hv'
  |some b=>
   rw[eb] at hv'
   obtain rfl:Value.bool b=v:=Option.some.inj hv'
   have:bs.getD i true=b:=by rw[List.getD_eq_getElem?_getD,eb];rfl
   have hq':Q' b s1:=by rw[← this];exact hq
   exact wpAny_pure hq'
 ·have keep:∀b o,s.heap.get? b=some o→h'.get? b=some o:=fun b o e=>k b o (by simpa using Nat.ne_of_lt (Heap.lt_size e)) (Heap.get?_push_of_some _ e)
  refine⟨.bl (bs.all id),H,I.kept (t':=tk) keep,?_,q⟩
  show Value.bool _=Value.bool _
  congr 1
  have go:∀ (bs:List Bool),((List.range bs.length).all fun i=>bs.getD i true)=bs.all id:=by
   intro bs
   induction bs with
   |nil=>rfl
   |cons b bs ih=>
    rw[List.length_cons,List.range_succ_eq_map,List.all_cons,List.all_map,List.all_cons,← ih]
    rfl
  rw[← go bs]
  simp
def aCT:V→List V→Hp→VK→Prop:=fun x vs H Q=>∃ (l:Addr) (ns:List Int) (z:Int),x=.ref l∧vs=[.int z]∧H l=some (.lst (ns.map V.int))∧z∈ns∧Q .non (upd H l (.lst ((ns.eraseIdx (ns.idxOf z)).map V.int)))
theorem wN:∀ {ns:List Int} {its:List Value},Vals (ns.map V.int) its→∀i (h:i<its.length) (h':i<ns.length),∃t,its[i]=Value.int ns[i] t
 |[],_,.nil,i,h,_=>by simp at h
 |n::ns,_,.cons ⟨t,e⟩ r,0,_,_=>⟨t,e⟩
 |n::ns,_,.cons _ r,i+1,h,h'=>wN r i (by simpa using h) (by simpa using h')
def isI(z:Int)(v:Value):Bool:=match v with
 |.int y _=>y==z
 |_=>false
theorem rA:MtM X "list.remove" aCT:=by
 intro pins s σ H x vs v us Q I rx rv h
 obtain⟨l,ns,z,rfl,rfl,hH,hz,q⟩:=h
 cases rx
 obtain⟨u,rfl,ru⟩:=rv.one
 obtain⟨t,rfl⟩:=ru
 obtain⟨zz,its,n,r,hl,e⟩:=I.lstM hH
 have hlen:its.length=ns.length:=by have:=r.length;rw[List.length_map] at this;exact this.symm
 have hj:ns.idxOf z<ns.length:=List.idxOf_lt_length_iff.mpr hz
 have at_:∀i (h:i<its.length),∃t,its[i]=Value.int (ns[i]'(by lia)) t:=fun i h=>wN r i h (by lia)
 refine call_meets F.slot_list_remove ⟨_,e,rfl⟩ F.entry_list_remove (F.args_list_remove_2 _ _)
  (MeetsSeq.list_remove l its.toArray n (.int z t) (isI z) (fun y hy=>?_) (ns.idxOf z) (by simpa [hlen] using hj) ?_ (fun m hm hlt=>?_) (by rw[List.size_toArray,hlen];rw[List.length_map] at zz;exact zz)) ⟨e,?_⟩
 ·obtain⟨i,hi,rfl⟩:=List.mem_iff_getElem.mp (show y∈its by simpa using hy)
  obtain⟨t',e'⟩:=at_ i hi
  rw[e']
  exact MeetsSeq.EqGives.int _ _ _ _
 ·obtain⟨t',e'⟩:=at_ (ns.idxOf z) (by lia)
  have e2:its.toArray[ns.idxOf z]'(by simpa [hlen] using hj)=its[ns.idxOf z]'(by lia):=by simp
  rw[e2,e']
  show (ns[ns.idxOf z]==z)=true
  rw[List.getElem_idxOf];simp
 ·obtain⟨t',e'⟩:=at_ m (by simpa using hm)
  have e2:its.toArray[m]=its[m]'(by simpa using hm):=by simp
  rw[e2,e']
  show (ns[m]==z)=false
  have:=List.not_of_lt_findIdx (p:=(·==z)) (xs:=ns) (i:=m) hlt
  simpa using this
 ·refine⟨.non,_,I.lset (its':=its.eraseIdx (ns.idxOf z)) hH e ?_ ?_ ?_,rfl,q⟩
  ·show its.toArray.eraseIdxIfInBounds _=_
   rw[List.eraseIdxIfInBounds_toArray]
  ·have em:∀ (l:List Int) (j:Nat),(l.eraseIdx j).map V.int=(l.map V.int).eraseIdx j:=by
    intro l
    induction l with
    |nil=>intro j;rfl
    |cons y l ih=>
     intro j
     cases j with
     |zero=>rfl
     |succ j=>simp only[List.eraseIdx_cons_succ,List.map_cons,ih]
   rw[em]
   exact r.eraseIdx _
  ·rw[List.length_map,List.length_eraseIdx]
   rw[List.length_map] at zz
   split <;> lia
end
end L2
namespace L2
open PySem PySem.Spec PyProof.Rows
structure Cal(P:Program)(w:World)(K:PySem.W.Frag)(mg:Str→Option Value)(base:Heap)(CX:CXT)(k:Nat)(x:Str)(ps:List Str)(sp:Sp):Prop where
 ex:∃f fd,mg x=some (.ref f)∧PySem.W.keepIn K (.ref f)=true∧fY K fd ps []∧FnOk P w K mg base CX k f fd ps sp
theorem aQ{X:Cx}{CX:CXT}{k:Nat}{x:Str}{ps:List Str}{sp:Sp}{E:XK}{e:Expr}{es:List Expr}{t:TA}{p pos:Pos}(C:Cal X.prog X.w X.K X.mg X.base CX k x ps sp)(hr:Room k X.A)(hx:iJ CX X E)(ha:PA X (e::es) t)(hg:Gl X x:=by rfl)(hdb:(x==("__debug__":Str))=false:=by decide)(he:starEach (e::es) X.env=(false,eval e X.env)::starEach es X.env:=by rfl)(hpl:(backTo pos (starEach es X.env)).any (·.1)=false:=by rfl):
  PE X (.Call (.Name x p) (e::es) [] pos) (lW sp [] E t):=by
 obtain⟨f,fd,a,b,c,d⟩:=C.ex
 exact aCG d hr hg a b c .nil hx ha hdb he hpl
theorem aG{H:Hp}{D:Addr}{o:HO}(h:H D=none):Same H (upd H D o):=fun b u e=>by rw[aF (aH e h)];exact e
def aI(p:Addr)(H H':Hp):Prop:=∀b o,H b=some o→b≠p→H' b=some o
theorem aI.refl{p:Addr}{H:Hp}:aI p H H:=fun _ _ h _=>h
theorem aI.trans{p:Addr}{H H1 H2:Hp}(a:aI p H H1)(b:aI p H1 H2):aI p H H2:=fun c o h n=>b c o (a c o h n) n
theorem aI.upd{p:Addr}{H:Hp}{o:HO}:aI p H (upd H p o):=fun b u h n=>by rw[aF n];exact h
theorem aI.of{p:Addr}{H H':Hp}(s:Same H H'):aI p H H':=fun b o h _=>s b o h
theorem aI.free{p q:Addr}{H H':Hp}(s:aI p H H')(hp:H' p≠none)(h:H' q=none):H q=none:=by
 cases z:H q with
 |none=>rfl
 |some o=>
  by_cases e:q=p
  ·subst e;exact absurd h hp
  ·rw[s q o z e] at h;cases h
theorem cT{n j:Nat}(h:j<n):ixN n (j:Int)=some j:=by
 unfold ixN
 rw[if_pos (by lia),if_pos (by lia)]
 simp
theorem aAQ{as:List Addr}{t:Addr}{j n:Nat}(h:as.length=n):(as++[t]).getD j 0=if j=n then t else as.getD j 0:=by
 rw[List.getD_eq_getElem?_getD,List.getD_eq_getElem?_getD]
 by_cases hj:j=n
 ·subst hj;subst h
  rw[if_pos rfl,List.getElem?_append_right (Nat.le_refl _),Nat.sub_self];rfl
 ·rw[if_neg hj]
  by_cases hlt:j<as.length
  ·rw[List.getElem?_append_left hlt]
  ·rw[List.getElem?_append_right (by lia),List.getElem?_eq_none (by simp;lia),List.getElem?_eq_none (by lia)]
def Holds(H:Hp)(as:List Addr)(n:Nat)(o:Nat→HO):Prop:=as.length=n∧∀j,j<n→H (as.getD j 0)=some (o j)
theorem Holds.nil{H:Hp}{o:Nat→HO}:Holds H [] 0 o:=⟨rfl,fun j hj=>absurd hj (by lia)⟩
theorem Holds.snoc{H:Hp}{as:List Addr}{n:Nat}{o:Nat→HO}{t:Addr}(h:Holds H as n o)(ht:H t=some (o n)):Holds H (as++[t]) (n+1) o:=by
 refine⟨by rw[List.length_append,h.1];rfl,fun j hj=>?_⟩
 rw[aAQ h.1]
 by_cases e:j=n
 ·rw[if_pos e,e];exact ht
 ·rw[if_neg e];exact h.2 j (by lia)
theorem Holds.mono{H H':Hp}{as:List Addr}{n:Nat}{o:Nat→HO}(h:Holds H as n o)(e:∀j,j<n→H (as.getD j 0)=some (o j)→H' (as.getD j 0)=some (o j)):Holds H' as n o:=⟨h.1,fun j hj=>e j hj (h.2 j hj)⟩
end L2
namespace PyProof.Rows
open PySem
def dP:Bool→Keyed→Array Keyed→Nat→Nat→Nat→StateT SortSt Sem (Option Nat):=sortPriv% PySem.Builtin.gallop
def nE:Array Keyed→Array Keyed→StateT SortSt Sem (Array Keyed):=sortPriv% PySem.Builtin.mergeLo
def nF:Array Keyed→Array Keyed→StateT SortSt Sem (Array Keyed):=sortPriv% PySem.Builtin.mergeHi
def dB:Nat→StateT SortSt Sem Unit:=sortPriv% PySem.Builtin.setMinGallop
def Cmp(prog:Program)(w:World)(A:Around)(s:Shared)(κ:SortKind)(a₀:Array Keyed)(key:Keyed→Int):Prop:=
 ∀x y,x∈a₀.toList→y∈a₀.toList→∀ (Q:Bool→Shared→Prop) (E:Value→Shared→Prop),Q (decide (key x<key y)) s→wpAny (model prog w) A (keyLt' κ x.1 y.1) Q E s
structure SQ(κ:SortKind)(a₀:Array Keyed)(pd:Array (Nat×Nat×Nat))(st:SortSt):Prop where
 perm:(arrOf st).Perm a₀
 kind:kindOf st=κ
 failed:failedOf st=none
 pend:pendingOf st=pd
def kk(key:Keyed→Int)(a:Array Keyed)(i:Nat):Int:=(a[i]?.map key).getD 0
def So(key:Keyed→Int)(a:Array Keyed)(lo hi:Nat):Prop:=∀i j,lo≤i→i≤j→j<hi→kk key a i≤kk key a j
def Out(a b:Array Keyed)(lo hi:Nat):Prop:=∀k,k<lo∨hi≤k→b[k]?=a[k]?
theorem Out.refl{a:Array Keyed}{lo hi:Nat}:Out a a lo hi:=fun _ _=>rfl
theorem Out.trans{a b c:Array Keyed}{lo hi:Nat}(x:Out a b lo hi)(y:Out b c lo hi):Out a c lo hi:=fun k h=>(y k h).trans (x k h)
theorem Out.wide{a b:Array Keyed}{lo hi lo' hi':Nat}(x:Out a b lo hi)(h1:lo'≤lo)(h2:hi≤hi'):Out a b lo' hi':=fun k h=>x k (by lia)
theorem cE{key:Keyed→Int}{a:Array Keyed}{i:Nat}(h:i<a.size):kk key a i=key a[i]:=by unfold kk;rw[getElem?_pos a i h];rfl
theorem eW{key:Keyed→Int}{a b:Array Keyed}{i j:Nat}(h:a[i]?=b[j]?):kk key a i=kk key b j:=by unfold kk;rw[h]
section
variable {prog:Program} {w:World} {A:Around} {E:Value→Shared→Prop} {s:Shared} {κ:SortKind} {a₀:Array Keyed} {pd:Array (Nat×Nat×Nat)} {key:Keyed→Int}
theorem SQ.size{st:SortSt}(h:SQ κ a₀ pd st):(arrOf st).size=a₀.size:=h.perm.size_eq
theorem SQ.setArr{st:SortSt}(h:SQ κ a₀ pd st){xs:Array Keyed}(hp:xs.Perm (arrOf st)):SQ κ a₀ pd (setArr st xs):=⟨hp.trans h.perm,h.kind,h.failed,h.pend⟩
theorem SQ.at{st:SortSt}(h:SQ κ a₀ pd st){i:Nat}(hi:i<a₀.size):∃p,(arrOf st)[i]?=some p∧p∈a₀.toList:=by
 have hi':i<(arrOf st).size:=by rw[h.size];exact hi
 exact⟨(arrOf st)[i],getElem?_pos _ i hi',(Array.perm_iff_toList_perm.mp h.perm).mem_iff.mp (by simp)⟩
theorem lE{st:SortSt}{x y:Keyed}{Q:Option Bool→SortSt→Prop}(hC:Cmp prog w A s κ a₀ key)(hk:kindOf st=κ)(hx:x∈a₀.toList)(hy:y∈a₀.toList)(h:Q (some (decide (key x<key y))) st):wpS (model prog w) A E s (lt' x y) Q st:=by
 rw[lt'_eq]
 refine wpS_bind (wpS_get ?_)
 rw[hk]
 refine wpS_bind (wpS_lift (wpAny_attempt (hC x y hx hy _ _ ⟨rfl,?_⟩)))
 exact wpS_pure h
theorem bQ{st:SortSt}{arr:Array Keyed}{i:Nat}{p:Keyed}{Q:Keyed→SortSt→Prop}(hi:arr[i]?=some p)(h:Q p st):wpS (model prog w) A E s (elem' arr i) Q st:=by
 rw[elem'_eq,hi]
 exact wpS_pure h
theorem jL{st:SortSt}{i j:Nat}{Q:Option Bool→SortSt→Prop}(hC:Cmp prog w A s κ a₀ key)(hB:SQ κ a₀ pd st)(hi:i<a₀.size)(hj:j<a₀.size)(h:∀b,b=decide (kk key (arrOf st) i<kk key (arrOf st) j)→Q (some b) st):wpS (model prog w) A E s (ltAt' i j) Q st:=by
 obtain⟨p,e1,m1⟩:=hB.at hi
 obtain⟨q,e2,m2⟩:=hB.at hj
 rw[ltAt'_eq]
 refine wpS_bind (wpS_get ?_)
 refine wpS_bind (bQ e1 (wpS_bind (bQ e2 (lE hC hB.kind m1 m2 (h _ ?_)))))
 unfold kk
 rw[e1,e2];rfl
theorem mD{st:SortSt}{i j:Nat}{Q:Unit→SortSt→Prop}(hB:SQ κ a₀ pd st)(hj:j≤a₀.size)(h:∀st',SQ κ a₀ pd st'→(∀k,(arrOf st')[k]?=if i≤k∧k<j then (arrOf st)[i+j-1-k]? else (arrOf st)[k]?)→Q () st'):wpS (model prog w) A E s (reverseSlice' i j) Q st:=by
 rw[reverseSlice'_eq]
 exact wpS_modify (h _ (hB.setArr (mirror_perm _ _ _ _)) (getElem?_mirror_all (by rw[hB.size];exact hj)))
theorem aBK{st:SortSt}{i j:Nat}{Q:Unit→SortSt→Prop}(hB:SQ κ a₀ pd st)(hi:i<a₀.size)(hj:j≤i)(h:∀st',SQ κ a₀ pd st'→(∀k,(arrOf st')[k]?=if k=j then (arrOf st)[i]? else if j<k∧k≤i then (arrOf st)[k-1]? else (arrOf st)[k]?)→Q () st'):wpS (model prog w) A E s (moveDown' i j) Q st:=by
 rw[moveDown'_eq]
 refine wpS_modify (h _ (hB.setArr (bubble_perm _ _ _)) fun k=>?_)
 have:=getElem?_bubble (xs:=arrOf st) (src:=i) (by rw[hB.size];exact hi) (i-j) (by lia) k
 rw[show i-(i-j)=j by lia] at this
 exact this
theorem aCU{st:SortSt}{lo n ok:Nat}{Q:Bool→SortSt→Prop}(hC:Cmp prog w A s κ a₀ key)(hn:lo+n≤a₀.size)(hok:ok≤n)(hB:SQ κ a₀ pd st)(hs:So key (arrOf st) lo (lo+ok))(h:∀st',SQ κ a₀ pd st'→So key (arrOf st') lo (lo+n)→Out (arrOf st) (arrOf st') lo (lo+n)→Q true st'):wpS (model prog w) A E s (binarySort' lo n ok) Q st:=by
  rw[binarySort'_eq]
  refine wpS_bind (wpS_mono (wpS_forRange (I:=fun k c st'=>c=(none,())∧SQ κ a₀ pd st'∧So key (arrOf st') lo (lo+k)∧Out (arrOf st) (arrOf st') lo (lo+n)) (Q:=fun c st'=>c=(none,())∧SQ κ a₀ pd st'∧So key (arrOf st') lo (lo+n)∧Out (arrOf st) (arrOf st') lo (lo+n)) ?_ (fun c st' hh=>⟨hh.1,hh.2.1,fun i j h1 h2 h3=>hh.2.2.1 i j h1 h2 (by lia),hh.2.2.2⟩) ⟨rfl,hB,fun i j h1 h2 h3=>?_,Out.refl⟩) ?_)
  · rintro k c st' hk1 hk2 ⟨rfl,hB',so,ou⟩
    dsimp only
    refine wpS_bind (wpS_mono (wpS_forRange (I:=fun x c st''=>(∃l r,c=(none,l,r)∧l≤r∧r≤k∧r≤l+(k-x)∧(∀i,i<l→kk key (arrOf st') (lo+i)≤kk key (arrOf st') (lo+k))∧(∀i,r≤i→i<k→kk key (arrOf st') (lo+k)≤kk key (arrOf st') (lo+i)))∧st''=st') (Q:=fun c st''=>(∃l r,c=(none,l,r)∧l≤k∧(∀i,i<l→kk key (arrOf st') (lo+i)≤kk key (arrOf st') (lo+k))∧(∀i,l≤i→i<k→kk key (arrOf st') (lo+k)≤kk key (arrOf st') (lo+i)))∧st''=st') ?_ ?_ ⟨⟨_,_,rfl,Nat.zero_le _,Nat.le_refl _,by lia,fun i h=>by lia,fun i h h'=>by lia⟩,rfl⟩) ?_)
    · rintro x c st2 _ hx ⟨⟨l,r,rfl,hlr',hr,hrl,f1,f2⟩,rfl⟩
      dsimp only
      by_cases hlr:l≥r
      · rw[if_pos hlr]
        exact wpS_pure ⟨⟨_,_,rfl,by lia,f1,fun i hi hi'=>f2 i (by lia) hi'⟩,rfl⟩
      · rw[if_neg hlr]
        refine wpS_bind (jL hC hB' (by lia) (by lia) fun b eb=>?_)
        cases b
        · have e:=of_decide_eq_false eb.symm
          refine wpS_pure ⟨⟨_,_,rfl,by lia,hr,by lia,fun i hi=>?_,f2⟩,rfl⟩
          have:=so (lo+i) (lo+(l+r) / 2) (by lia) (by lia) (by lia)
          lia
        · have e:=of_decide_eq_true eb.symm
          refine wpS_pure ⟨⟨_,_,rfl,by lia,by lia,by lia,f1,fun i hi hi'=>?_⟩,rfl⟩
          have:=so (lo+(l+r) / 2) (lo+i) (by lia) (by lia) (by lia)
          lia
    · rintro c st2 ⟨⟨l,r,rfl,hlr',hr,hrl,f1,f2⟩,rfl⟩
      exact⟨⟨_,_,rfl,by lia,f1,fun i hi hi'=>f2 i (by lia) hi'⟩,rfl⟩
    · rintro c st2 ⟨⟨l,r,rfl,hl,f1,f2⟩,rfl⟩
      dsimp only
      refine wpS_bind (aBK hB' (by lia) (by lia) fun st3 hB3 hg=>wpS_pure ⟨rfl,hB3,fun i j h1 h2 h3=>?_,fun q hq=>?_⟩)
      · have gi:=hg i
        have gj:=hg j
        have ei:kk key (arrOf st3) i=if i=lo+l then kk key (arrOf st2) (lo+k) else if lo+l<i∧i≤lo+k then kk key (arrOf st2) (i-1) else kk key (arrOf st2) i:=by
          unfold kk;rw[gi];split
          · rfl
          · split <;> rfl
        have ej:kk key (arrOf st3) j=if j=lo+l then kk key (arrOf st2) (lo+k) else if lo+l<j∧j≤lo+k then kk key (arrOf st2) (j-1) else kk key (arrOf st2) j:=by
          unfold kk;rw[gj];split
          · rfl
          · split <;> rfl
        rw[ei,ej]
        by_cases c1:i=lo+l
        · rw[if_pos c1]
          by_cases c2:j=lo+l
          · rw[if_pos c2];lia
          · rw[if_neg c2,if_pos (by lia)]
            have:=f2 (j-1-lo) (by lia) (by lia)
            rw[show lo+(j-1-lo)=j-1 by lia] at this
            exact this
        · rw[if_neg c1]
          by_cases c3:lo+l<i∧i≤lo+k
          · rw[if_pos c3,if_neg (by lia),if_pos (by lia)]
            exact so _ _ (by lia) (by lia) (by lia)
          · rw[if_neg c3]
            by_cases c2:j=lo+l
            · rw[if_pos c2]
              have:=f1 (i-lo) (by lia)
              rw[show lo+(i-lo)=i by lia] at this
              exact this
            · rw[if_neg c2]
              by_cases c4:lo+l<j∧j≤lo+k
              · rw[if_pos c4];exact so _ _ (by lia) (by lia) (by lia)
              · rw[if_neg c4];exact so _ _ (by lia) (by lia) (by lia)
      · rw[hg q,if_neg (by lia),if_neg (by lia)]
        exact ou q hq
  · by_cases ho:ok=0
    · have:i=j:=by subst ho;have:max 0 1=1:=rfl;lia
      rw[this];exact Int.le_refl _
    · exact hs i j h1 h2 (by have:max ok 1=ok:=by lia
                             lia)
  · rintro c st' ⟨rfl,hB',so,ou⟩
    exact wpS_pure (h st' hB' so ou)
end
end PyProof.Rows
namespace PyProof.Rows
open PySem
def finC(lo nrem n:Nat):StateT SortSt Sem (Option Nat):=do
 reverseSlice' lo (lo+n)
 let mut n:=n
 for _ in [n:nrem] do
  let some smaller ← ltAt' (lo+n) (lo+n-1)|return none
  if smaller then break
  n:=n+1
 return some n
def desC(lo nrem n:Nat):StateT SortSt Sem (Option Nat):=do
 rule "list.sort.descending-run"
 let mut n:=n+1
 let mut neq:=0
 for _ in [n:nrem] do
  let some smaller ← ltAt' (lo+n) (lo+n-1)|return none
  if smaller then
   if neq > 0 then reverseSlice' (lo+n-(neq+1)) (lo+n)
   neq:=0
  else
   let some larger ← ltAt' (lo+n-1) (lo+n)|return none
   if larger then break
   neq:=neq+1
  n:=n+1
 if neq > 0 then reverseSlice' (lo+n-(neq+1)) (lo+n)
 finC lo nrem n
theorem rL(lo nrem:Nat):countRun' lo nrem=(do
 let mut n:=1
 for _ in [1:nrem] do
  let some smaller ← ltAt' (lo+n) (lo+n-1)|return none
  if smaller then break
  n:=n+1
 if n==nrem then return some n
 if n > 1 then
  let some rose ← ltAt' lo (lo+n-1)|return none
  if rose then return some n
  reverseSlice' lo (lo+n)
 desC lo nrem n):=rfl
section
variable {prog:Program} {w:World} {A:Around} {E:Value→Shared→Prop} {s:Shared} {κ:SortKind} {a₀:Array Keyed} {pd:Array (Nat×Nat×Nat)} {key:Keyed→Int} {ar:Array Keyed}
def De(key:Keyed→Int)(a:Array Keyed)(lo hi:Nat):Prop:=∀i j,lo≤i→i≤j→j<hi→kk key a j≤kk key a i
theorem tG{a b:Array Keyed}{i j:Nat}(h:∀k,b[k]?=if i≤k∧k<j then a[i+j-1-k]? else a[k]?)(k:Nat):kk key b k=if i≤k∧k<j then kk key a (i+j-1-k) else kk key a k:=by
 unfold kk;rw[h k];split <;> rfl
theorem lF{a b:Array Keyed}{i j:Nat}(h:∀k,b[k]?=if i≤k∧k<j then a[i+j-1-k]? else a[k]?)(e:∀k,i≤k→k<j→kk key a k=kk key a (j-1))(k:Nat):kk key b k=kk key a k:=by
 rw[tG h]
 split
 ·rename_i c;rw[e _ (by lia) (by lia),e k c.1 c.2]
 ·rfl
theorem mE{a b:Array Keyed}{i j lo hi:Nat}(h:∀k,b[k]?=if i≤k∧k<j then a[i+j-1-k]? else a[k]?)(h1:lo≤i)(h2:j≤hi):Out a b lo hi:=fun k hk=>by rw[h k,if_neg (by lia)]
theorem wO{st:SortSt}{lo nrem n:Nat}{Q:Option (Option Nat)×Nat→SortSt→Prop}(hC:Cmp prog w A s κ a₀ key)(hn:lo+nrem≤a₀.size)(h1:1≤n)(h2:n≤nrem)(hB:SQ κ a₀ pd st)(so:So key (arrOf st) lo (lo+n))(h:∀m,n≤m→m≤nrem→So key (arrOf st) lo (lo+m)→(m=nrem∨kk key (arrOf st) (lo+m)<kk key (arrOf st) (lo+m-1))→Q (none,m) st):
  wpS (model prog w) A E s (forIn [n:nrem] ((none:Option (Option Nat)),n) fun _ r=>do
   let some smaller ← ltAt' (lo+r.2) (lo+r.2-1)|pure (ForInStep.done (some none,r.2))
   if smaller then pure (ForInStep.done (none,r.2)) else pure (ForInStep.yield (none,r.2+1))) Q st:=by
 refine wpS_mono (wpS_forRange (I:=fun i c st'=>st'=st∧c=(none,i)∧So key (arrOf st) lo (lo+i)) (Q:=fun c st'=>st'=st∧∃m,c=(none,m)∧n≤m∧m≤nrem∧So key (arrOf st) lo (lo+m)∧(m=nrem∨kk key (arrOf st) (lo+m)<kk key (arrOf st) (lo+m-1))) ?_ ?_ ⟨rfl,rfl,so⟩) ?_
 ·rintro i c st1 hi1 hi2 ⟨rfl,rfl,so1⟩
  dsimp only
  refine wpS_bind (jL hC hB (by lia) (by lia) fun b eb=>?_)
  cases b
  ·have e:=of_decide_eq_false eb.symm
   refine wpS_pure ⟨rfl,rfl,fun x y hx hxy hy=>?_⟩
   by_cases c1:y<lo+i
   ·exact so1 x y hx hxy c1
   ·have:y=lo+i:=by lia
    subst this
    by_cases c2:x=lo+i
    ·rw[c2];lia
    ·have:=so1 x (lo+i-1) hx (by lia) (by lia)
     lia
  ·exact wpS_pure ⟨rfl,_,rfl,by lia,by lia,so1,.inr (of_decide_eq_true eb.symm)⟩
 ·rintro c st1 ⟨rfl,rfl,so1⟩
  have:max n nrem=nrem:=by lia
  rw[this] at so1 ⊢
  exact⟨rfl,_,rfl,by lia,by lia,so1,.inl rfl⟩
 ·rintro c st1 ⟨rfl,m,rfl,m1,m2,so1,e⟩
  exact h m m1 m2 so1 e
theorem wP{st:SortSt}{lo nrem n:Nat}{Q:Option Nat→SortSt→Prop}(hC:Cmp prog w A s κ a₀ key)(hn:lo+nrem≤a₀.size)(h1:1≤n)(h2:n≤nrem)(hB:SQ κ a₀ pd st)(de:De key (arrOf st) lo (lo+n))(ou:Out ar (arrOf st) lo (lo+nrem))(h:∀n st',SQ κ a₀ pd st'→1≤n→n≤nrem→So key (arrOf st') lo (lo+n)→Out ar (arrOf st') lo (lo+nrem)→Q (some n) st'):wpS (model prog w) A E s (finC lo nrem n) Q st:=by
 unfold finC
 refine wpS_bind (mD hB (by lia) fun st2 hB2 hg=>?_)
 refine wpS_bind (wO hC hn h1 h2 hB2 (fun i j hi hij hj=>?_) fun m m1 m2 so _=>?_)
 ·rw[tG hg,tG hg,if_pos (by lia),if_pos (by lia)]
  exact de _ _ (by lia) (by lia) (by lia)
 ·exact wpS_pure (h m st2 hB2 (by lia) m2 so (ou.trans (mE hg (by lia) (by lia))))
theorem wQ{st:SortSt}{lo nrem n:Nat}{Q:Option Nat→SortSt→Prop}(hC:Cmp prog w A s κ a₀ key)(hn:lo+nrem≤a₀.size)(h1:1≤n)(h2:n<nrem)(hB:SQ κ a₀ pd st)(de:De key (arrOf st) lo (lo+(n+1)))(ou:Out ar (arrOf st) lo (lo+nrem))(h:∀n st',SQ κ a₀ pd st'→1≤n→n≤nrem→So key (arrOf st') lo (lo+n)→Out ar (arrOf st') lo (lo+nrem)→Q (some n) st'):wpS (model prog w) A E s (desC lo nrem n) Q st:=by
 unfold desC
 refine wpS_bind (wpS_lift (wpAny_rule ⟨rfl,?_⟩))
 dsimp only
 refine wpS_bind (wpS_mono (wpS_forRange (I:=fun i c st'=>SQ κ a₀ pd st'∧De key (arrOf st') lo (lo+i)∧Out ar (arrOf st') lo (lo+nrem)∧∃q,c=(none,i,q)∧q+1≤i∧∀k,lo+i-(q+1)≤k→k<lo+i→kk key (arrOf st') k=kk key (arrOf st') (lo+i-1)) (Q:=fun c st'=>SQ κ a₀ pd st'∧Out ar (arrOf st') lo (lo+nrem)∧∃i q,c=(none,i,q)∧De key (arrOf st') lo (lo+i)∧1≤i∧i≤nrem∧q+1≤i∧∀k,lo+i-(q+1)≤k→k<lo+i→kk key (arrOf st') k=kk key (arrOf st') (lo+i-1)) ?_ ?_ ⟨hB,de,ou,_,rfl,by lia,fun k hk1 hk2=>by rw[show k=lo+(n+1)-1 by lia]⟩) ?_)
 ·rintro i c st3 hi1 hi2 ⟨hB3,de3,ou3,q,rfl,hq,eq⟩
  dsimp only
  have step:∀st',(∀k,kk key (arrOf st') k=kk key (arrOf st3) k)→kk key (arrOf st3) (lo+i)≤kk key (arrOf st3) (lo+i-1)→De key (arrOf st') lo (lo+(i+1)):=by
   intro st' e hlt x y hx hxy hy
   rw[e,e]
   by_cases c1:y<lo+i
   ·exact de3 x y hx hxy c1
   ·have:y=lo+i:=by lia
    subst this
    by_cases c2:x=lo+i
    ·rw[c2];lia
    ·have:=de3 x (lo+i-1) hx (by lia) (by lia)
     lia
  refine wpS_bind (jL hC hB3 (by lia) (by lia) fun b3 e3=>?_)
  cases b3
  ·have e3':=of_decide_eq_false e3.symm
   dsimp only
   rw[if_neg (by decide)]
   refine wpS_bind (jL hC hB3 (by lia) (by lia) fun b4 e4=>?_)
   cases b4
   ·have e4':=of_decide_eq_false e4.symm
    refine wpS_pure ⟨hB3,step st3 (fun _=>rfl) (by lia),ou3,_,rfl,by lia,fun k hk1 hk2=>?_⟩
    rw[show lo+(i+1)-1=lo+i by lia]
    by_cases c1:k=lo+i
    ·rw[c1]
    ·have:=eq k (by lia) (by lia)
     lia
   ·exact wpS_pure ⟨hB3,ou3,_,_,rfl,de3,by lia,by lia,hq,eq⟩
  ·have e3':=of_decide_eq_true e3.symm
   dsimp only
   rw[if_pos rfl]
   split
   ·refine wpS_bind (mD hB3 (by lia) fun st4 hB4 hg=>wpS_pure ⟨hB4,step st4 (lF hg eq) (by lia),ou3.trans (mE hg (by lia) (by lia)),_,rfl,by lia,fun k hk1 hk2=>by rw[show k=lo+(i+1)-1 by lia]⟩)
   ·exact wpS_pure ⟨hB3,step st3 (fun _=>rfl) (by lia),ou3,_,rfl,by lia,fun k hk1 hk2=>by rw[show k=lo+(i+1)-1 by lia]⟩
 ·rintro c st3 ⟨hB3,de3,ou3,q,rfl,hq,eq⟩
  have:max (n+1) nrem=nrem:=by lia
  rw[this] at de3 hq eq ⊢
  exact⟨hB3,ou3,_,_,rfl,de3,by lia,by lia,hq,eq⟩
 ·rintro c st3 ⟨hB3,ou3,i,q,rfl,de3,i1,i2,hq,eq⟩
  dsimp only
  split
  ·refine wpS_bind (mD hB3 (by lia) fun st4 hB4 hg=>?_)
   refine wP hC hn i1 i2 hB4 (fun x y hx hxy hy=>?_) (ou3.trans (mE hg (by lia) (by lia))) h
   rw[lF hg eq,lF hg eq]
   exact de3 x y hx hxy hy
  ·exact wP hC hn i1 i2 hB3 de3 ou3 h
theorem aAR{st:SortSt}{lo nrem:Nat}{Q:Option Nat→SortSt→Prop}(hC:Cmp prog w A s κ a₀ key)(hn:lo+nrem≤a₀.size)(h1:1≤nrem)(hB:SQ κ a₀ pd st)(h:∀n st',SQ κ a₀ pd st'→1≤n→n≤nrem→So key (arrOf st') lo (lo+n)→Out (arrOf st) (arrOf st') lo (lo+nrem)→Q (some n) st'):wpS (model prog w) A E s (countRun' lo nrem) Q st:=by
 rw[rL]
 refine wpS_bind (wO hC hn (Nat.le_refl 1) h1 hB (fun i j hi hij hj=>by rw[show i=j by lia];exact Int.le_refl _) fun n n1 n2 so e=>?_)
 dsimp only
 by_cases e1:(n==nrem)=true
 ·rw[if_pos e1];exact wpS_pure (h n st hB n1 n2 so Out.refl)
 rw[if_neg e1]
 have g1:¬ (n=nrem):=by simpa using e1
 have hlt:kk key (arrOf st) (lo+n)<kk key (arrOf st) (lo+n-1):=e.resolve_left g1
 by_cases e2:n > 1
 ·rw[if_pos e2]
  refine wpS_bind (jL hC hB (by lia) (by lia) fun b2 eb=>?_)
  cases b2
  ·have e3:=of_decide_eq_false eb.symm
   dsimp only
   rw[if_neg (by decide)]
   have eq:∀k,lo≤k→k<lo+n→kk key (arrOf st) k=kk key (arrOf st) (lo+n-1):=fun k hk1 hk2=>by
    have a1:=so lo k (by lia) hk1 hk2
    have a2:=so k (lo+n-1) hk1 (by lia) (by lia)
    lia
   refine wpS_bind (mD hB (by lia) fun st2 hB2 hg=>?_)
   refine wQ hC hn n1 (by lia) hB2 (fun i j hi hij hj=>?_) (mE hg (by lia) (by lia)) h
   rw[lF hg eq,lF hg eq]
   by_cases c1:j<lo+n
   ·rw[eq j (by lia) c1,eq i hi (by lia)];exact Int.le_refl _
   ·have:j=lo+n:=by lia
    subst this
    by_cases c2:i=lo+n
    ·rw[c2];exact Int.le_refl _
    ·rw[eq i hi (by lia)];lia
  ·exact wpS_pure (h n st hB n1 n2 so Out.refl)
 ·rw[if_neg e2]
  have:n=1:=by lia
  subst this
  refine wQ hC hn n1 (by lia) hB (fun i j hi hij hj=>?_) Out.refl h
  by_cases c1:i=j
  ·rw[c1];exact Int.le_refl _
  ·have:i=lo:=by lia
   have:j=lo+1:=by lia
   subst i;subst j
   rw[show lo+1-1=lo by lia] at hlt
   lia
end
end PyProof.Rows
namespace PyProof.Rows
open PySem
theorem yQ(left:Bool)(key:Keyed)(arr:Array Keyed)(base n hint:Nat):dP left key arr base n hint=(do
 let beyond (i:Nat):StateT SortSt Sem (Option Bool):=do
  let x ← elem' arr (base+i)
  if left then lt' x key else return (← lt' key x).map (!·)
 let mut lastofs:=0
 let mut ofs:=1
 let mut lo:=0
 let mut hi:=0
 let some right ← beyond hint|return none
 if right then
  let maxofs:=n-hint
  for _ in [0:n] do
   if ofs≥maxofs then break
   let some more ← beyond (hint+ofs)|return none
   if !more then break
   lastofs:=ofs
   ofs:=2*ofs+1
  lo:=hint+lastofs+1
  hi:=hint+min ofs maxofs
 else
  let maxofs:=hint+1
  for _ in [0:n] do
   if ofs≥maxofs then break
   let some found ← beyond (hint-ofs)|return none
   if found then break
   lastofs:=ofs
   ofs:=2*ofs+1
  lo:=hint+1-min ofs maxofs
  hi:=hint-lastofs
 for _ in [0:n] do
  if lo≥hi then break
  let m:=lo+(hi-lo) / 2
  let some more ← beyond m|return none
  if more then lo:=m+1 else hi:=m
 return some hi):=rfl
def thr(left:Bool)(k:Int):Int:=if left then k else k+1
section
variable {prog:Program} {w:World} {A:Around} {E:Value→Shared→Prop} {s:Shared} {κ:SortKind} {a₀:Array Keyed} {pd:Array (Nat×Nat×Nat)} {key:Keyed→Int}
theorem hU{st:SortSt}{left:Bool}{x:Keyed}{arr:Array Keyed}{j:Nat}{Q:Option Bool→SortSt→Prop}(hC:Cmp prog w A s κ a₀ key)(hk:kindOf st=κ)(hkey:x∈a₀.toList)(hin:∀x∈arr.toList,x∈a₀.toList)(hj:j<arr.size)(h:∀b,b=decide (kk key arr j<thr left (key x))→Q (some b) st):
  wpS (model prog w) A E s (do
  let y ← elem' arr j
  if left then lt' y x else return (← lt' x y).map (!·)) Q st:=by
 have hm:arr[j]∈a₀.toList:=hin _ (by simp)
 refine wpS_bind (bQ (getElem?_pos arr j hj) ?_)
 cases left
 ·rw[if_neg (by decide)]
  refine wpS_bind (lE hC hk hkey hm (wpS_pure (h _ ?_)))
  rw[cE hj]
  show (!decide (key x<key arr[j]))=decide (key arr[j]<key x+1)
  by_cases c:key x<key arr[j]
  ·rw[decide_eq_true c,decide_eq_false (by lia)];rfl
  ·rw[decide_eq_false c,decide_eq_true (by lia)];rfl
 ·rw[if_pos rfl]
  refine lE hC hk hm hkey (h _ ?_)
  rw[cE hj];rfl
theorem tH{st:SortSt}{left:Bool}{x:Keyed}{arr:Array Keyed}{base n l u:Nat}{Q:Option Nat→SortSt→Prop}(hC:Cmp prog w A s κ a₀ key)(hk:kindOf st=κ)(hkey:x∈a₀.toList)(hin:∀x∈arr.toList,x∈a₀.toList)(hn:base+n≤arr.size)(so:So key arr base (base+n))(hl:l≤u)(hu:u≤n)(f1:∀i,i<l→kk key arr (base+i)<thr left (key x))(f2:∀i,u≤i→i<n→thr left (key x)≤kk key arr (base+i))(h:∀k,k≤n→(∀i,i<k→kk key arr (base+i)<thr left (key x))→(∀i,k≤i→i<n→thr left (key x)≤kk key arr (base+i))→Q (some k) st):wpS (model prog w) A E s (do
   let mut lo:=l
   let mut hi:=u
   for _ in [0:n] do
    if lo≥hi then break
    let m:=lo+(hi-lo) / 2
    let some more ← (do
     let y ← elem' arr (base+m)
     if left then lt' y x else return (← lt' x y).map (!·))|return none
    if more then lo:=m+1 else hi:=m
   return some hi) Q st:=by
 refine wpS_bind (wpS_mono (wpS_forRange (I:=fun j c st'=>(∃l u,c=(none,l,u)∧l≤u∧u≤n∧u≤l+(n-j)∧(∀i,i<l→kk key arr (base+i)<thr left (key x))∧(∀i,u≤i→i<n→thr left (key x)≤kk key arr (base+i)))∧st=st') (Q:=fun c st'=>(∃l u,c=(none,l,u)∧u≤l∧u≤n∧(∀i,i<l→kk key arr (base+i)<thr left (key x))∧(∀i,u≤i→i<n→thr left (key x)≤kk key arr (base+i)))∧st=st') ?_ ?_ ⟨⟨_,_,rfl,hl,hu,by lia,f1,f2⟩,rfl⟩) ?_)
 ·rintro j c st' _ hj ⟨⟨l,u,rfl,hlu,hu,hd,f1,f2⟩,rfl⟩
  dsimp only
  by_cases hlr:l≥u
  ·rw[if_pos hlr];exact wpS_pure ⟨⟨_,_,rfl,hlr,hu,f1,f2⟩,rfl⟩
  ·rw[if_neg hlr]
   refine wpS_bind (hU hC hk hkey hin (by lia) fun more e=>?_)
   cases more
   ·have e':=of_decide_eq_false e.symm
    refine wpS_pure ⟨⟨_,_,rfl,by lia,by lia,by lia,f1,fun i hi hi'=>?_⟩,rfl⟩
    have:=so (base+(l+(u-l) / 2)) (base+i) (by lia) (by lia) (by lia)
    lia
   ·have e':=of_decide_eq_true e.symm
    refine wpS_pure ⟨⟨_,_,rfl,by lia,by lia,by lia,fun i hi=>?_,f2⟩,rfl⟩
    have:=so (base+i) (base+(l+(u-l) / 2)) (by lia) (by lia) (by lia)
    lia
 ·rintro c st' ⟨⟨l,u,rfl,hlu,hu,hd,f1,f2⟩,rfl⟩
  exact⟨⟨_,_,rfl,by lia,hu,f1,f2⟩,rfl⟩
 ·rintro c st' ⟨⟨l,u,rfl,hlu,hu,f1,f2⟩,rfl⟩
  exact wpS_pure (h u hu (fun i hi=>f1 i (by lia)) f2)
theorem eY{st:SortSt}{left:Bool}{x:Keyed}{arr:Array Keyed}{base n hint:Nat}{Q:Option Nat→SortSt→Prop}(hC:Cmp prog w A s κ a₀ key)(hk:kindOf st=κ)(hkey:x∈a₀.toList)(hin:∀x∈arr.toList,x∈a₀.toList)(hn:base+n≤arr.size)(hh:hint<n)(so:So key arr base (base+n))(h:∀k,k≤n→(∀i,i<k→kk key arr (base+i)<thr left (key x))→(∀i,k≤i→i<n→thr left (key x)≤kk key arr (base+i))→Q (some k) st):wpS (model prog w) A E s (dP left x arr base n hint) Q st:=by
 rw[yQ]
 refine wpS_bind (hU hC hk hkey hin (by lia) fun right er=>?_)
 cases right
 ·have er':=of_decide_eq_false er.symm
  dsimp only
  rw[if_neg (by decide)]
  refine wpS_bind (wpS_mono (wpS_forRange (I:=fun j c st'=>(∃l o,c=(none,l,o)∧l<o∧j<o∧l≤hint∧thr left (key x)≤kk key arr (base+(hint-l)))∧st=st') (Q:=fun c st'=>(∃l o,c=(none,l,o)∧l<o∧l≤hint∧thr left (key x)≤kk key arr (base+(hint-l))∧(hint+1≤o∨kk key arr (base+(hint-o))<thr left (key x)))∧st=st') ?_ ?_ ⟨⟨_,_,rfl,by lia,by lia,by lia,by rw[Nat.sub_zero];lia⟩,rfl⟩) ?_)
  ·rintro j c st' _ _ ⟨⟨l,o,rfl,hlo,hjo,hl,f⟩,rfl⟩
   dsimp only
   by_cases hlr:o≥hint+1
   ·rw[if_pos hlr];exact wpS_pure ⟨⟨_,_,rfl,hlo,hl,f,.inl hlr⟩,rfl⟩
   ·rw[if_neg hlr]
    refine wpS_bind (hU hC hk hkey hin (by lia) fun found e=>?_)
    cases found
    ·have e':=of_decide_eq_false e.symm
     exact wpS_pure ⟨⟨_,_,rfl,by lia,by lia,by lia,by lia⟩,rfl⟩
    ·exact wpS_pure ⟨⟨_,_,rfl,hlo,hl,f,.inr (of_decide_eq_true e.symm)⟩,rfl⟩
  ·rintro c st' ⟨⟨l,o,rfl,hlo,hjo,hl,f⟩,rfl⟩
   exact⟨⟨_,_,rfl,hlo,hl,f,.inl (by lia)⟩,rfl⟩
  ·rintro c st' ⟨⟨l,o,rfl,hlo,hl,f,e⟩,rfl⟩
   dsimp only
   refine tH hC hk hkey hin hn so (by lia) (by lia) (fun i hi=>?_) (fun i hi hi'=>?_) h
   ·rcases e with e|e
    ·lia
    ·by_cases c:hint+1≤o
     ·lia
     ·have:=so (base+i) (base+(hint-o)) (by lia) (by lia) (by lia)
      lia
   ·have:=so (base+(hint-l)) (base+i) (by lia) (by lia) (by lia)
    lia
 ·have er':=of_decide_eq_true er.symm
  dsimp only
  rw[if_pos rfl]
  refine wpS_bind (wpS_mono (wpS_forRange (I:=fun j c st'=>(∃l o,c=(none,l,o)∧l<o∧j<o∧l<n-hint∧kk key arr (base+(hint+l))<thr left (key x))∧st=st') (Q:=fun c st'=>(∃l o,c=(none,l,o)∧l<o∧l<n-hint∧kk key arr (base+(hint+l))<thr left (key x)∧(n-hint≤o∨thr left (key x)≤kk key arr (base+(hint+o))))∧st=st') ?_ ?_ ⟨⟨_,_,rfl,by lia,by lia,by lia,by rw[Nat.add_zero];exact er'⟩,rfl⟩) ?_)
  ·rintro j c st' _ _ ⟨⟨l,o,rfl,hlo,hjo,hl,f⟩,rfl⟩
   dsimp only
   by_cases hlr:o≥n-hint
   ·rw[if_pos hlr];exact wpS_pure ⟨⟨_,_,rfl,hlo,hl,f,.inl hlr⟩,rfl⟩
   ·rw[if_neg hlr]
    refine wpS_bind (hU hC hk hkey hin (by lia) fun more e=>?_)
    cases more
    ·have e':=of_decide_eq_false e.symm
     exact wpS_pure ⟨⟨_,_,rfl,hlo,hl,f,.inr (by lia)⟩,rfl⟩
    ·exact wpS_pure ⟨⟨_,_,rfl,by lia,by lia,by lia,of_decide_eq_true e.symm⟩,rfl⟩
  ·rintro c st' ⟨⟨l,o,rfl,hlo,hjo,hl,f⟩,rfl⟩
   exact⟨⟨_,_,rfl,hlo,hl,f,.inl (by lia)⟩,rfl⟩
  ·rintro c st' ⟨⟨l,o,rfl,hlo,hl,f,e⟩,rfl⟩
   dsimp only
   refine tH hC hk hkey hin hn so (by lia) (by lia) (fun i hi=>?_) (fun i hi hi'=>?_) h
   ·have:=so (base+i) (base+(hint+l)) (by lia) (by lia) (by lia)
    lia
   ·rcases e with e|e
    ·lia
    ·by_cases c:n-hint≤o
     ·lia
     ·have:=so (base+(hint+o)) (base+i) (by lia) (by lia) (by lia)
      lia
end
end PyProof.Rows
namespace PyProof.Rows
open PySem
theorem eG(g:Nat):dB g=modify fun s=>SortSt.mk' (kindOf s) (arrOf s) (pendingOf s) g (failedOf s):=rfl
structure SM(κ:SortKind)(ar:Array Keyed)(pd:Array (Nat×Nat×Nat))(st:SortSt):Prop where
 arr:arrOf st=ar
 kind:kindOf st=κ
 failed:failedOf st=none
 pend:pendingOf st=pd
abbrev GSt:=Option (Array Keyed)×Array Keyed×Nat×Nat×Nat×Nat×Nat
abbrev iL(a b out:Array Keyed)(ia ib:Nat):=out++a.extract ia a.size++b.extract ib b.size
abbrev oK(a b out:Array Keyed)(ia ib:Nat):=out++b.extract ib b.size++a.extract ia a.size
def loC(a b out:Array Keyed)(ia ib mg ac bc:Nat):StateT SortSt Sem (ForInStep GSt):=do
 let x ← elem' a ia
 if ia+1+1==a.size then pure (.done (some (oK a b (out.push x) (ia+1) ib),out.push x,ia+1,ib,mg,ac,bc))
 else if ac<7&&bc<7 then pure (.done (none,out.push x,ia+1,ib,mg,ac,bc)) else pure (.yield (none,out.push x,ia+1,ib,mg,ac,bc))
def loB(a b out:Array Keyed)(ia ib mg ac bc:Nat):StateT SortSt Sem (ForInStep GSt):=do
 let x ← elem' b ib
 if ib+1==b.size then pure (.done (some (iL a b (out.push x) ia (ib+1)),out.push x,ia,ib+1,mg,ac,bc))
 else do
  let some k ← dP true (← elem' a ia) b (ib+1) (b.size-(ib+1)) 0|pure (.done (some (iL a b (out.push x) ia (ib+1)),out.push x,ia,ib+1,mg,ac,bc))
  if k > 0 then
   if ib+1+k==b.size then pure (.done (some (iL a b (out.push x++b.extract (ib+1) (ib+1+k)) ia (ib+1+k)),out.push x++b.extract (ib+1) (ib+1+k),ia,ib+1+k,mg,ac,k))
   else loC a b (out.push x++b.extract (ib+1) (ib+1+k)) ia (ib+1+k) mg ac k
  else loC a b (out.push x) ia (ib+1) mg ac k
def loA(a b out:Array Keyed)(ia ib mg ac bc:Nat):StateT SortSt Sem (ForInStep GSt):=do
 dB mg
 let some k ← dP false (← elem' b ib) a ia (a.size-ia) 0|pure (.done (some (iL a b out ia ib),out,ia,ib,mg,ac,bc))
 if k > 0 then
  if ia+k+1==a.size then pure (.done (some (oK a b (out++a.extract ia (ia+k)) (ia+k) ib),out++a.extract ia (ia+k),ia+k,ib,mg,k,bc))
  else if ia+k==a.size then pure (.done (some (iL a b (out++a.extract ia (ia+k)) (ia+k) ib),out++a.extract ia (ia+k),ia+k,ib,mg,k,bc))
  else loB a b (out++a.extract ia (ia+k)) (ia+k) ib mg k bc
 else loB a b out ia ib mg k bc
theorem vK(a b:Array Keyed):nE a b=(do
 rule "list.sort.merge-lo"
 let total:=a.size+b.size
 let done (out:Array Keyed) (ia ib:Nat):=out++a.extract ia a.size++b.extract ib b.size
 let lastOfA (out:Array Keyed) (ia ib:Nat):=out++b.extract ib b.size++a.extract ia a.size
 let mut out:Array Keyed:=#[← elem' b 0]
 let mut ia:=0
 let mut ib:=1
 if ib==b.size then return done out ia ib
 if ia+1==a.size then return lastOfA out ia ib
 let mut minGallop:=gallopOf (← get)
 for _ in [0:total] do
  let mut acount:=0
  let mut bcount:=0
  for _ in [0:total] do
   let some bWins ← lt' (← elem' b ib) (← elem' a ia)|return done out ia ib
   if bWins then
    out:=out.push (← elem' b ib);ib:=ib+1;bcount:=bcount+1;acount:=0
    if ib==b.size then return done out ia ib
    if bcount≥minGallop then break
   else
    out:=out.push (← elem' a ia);ia:=ia+1;acount:=acount+1;bcount:=0
    if ia+1==a.size then return lastOfA out ia ib
    if acount≥minGallop then break
  rule "list.sort.gallop"
  minGallop:=minGallop+1
  for _ in [0:total] do
   if minGallop > 1 then minGallop:=minGallop-1
   dB minGallop
   let some k ← dP false (← elem' b ib) a ia (a.size-ia) 0|return done out ia ib
   acount:=k
   if k > 0 then
    out:=out++a.extract ia (ia+k);ia:=ia+k
    if ia+1==a.size then return lastOfA out ia ib
    if ia==a.size then return done out ia ib
   out:=out.push (← elem' b ib);ib:=ib+1
   if ib==b.size then return done out ia ib
   let some k ← dP true (← elem' a ia) b ib (b.size-ib) 0|return done out ia ib
   bcount:=k
   if k > 0 then
    out:=out++b.extract ib (ib+k);ib:=ib+k
    if ib==b.size then return done out ia ib
   out:=out.push (← elem' a ia);ia:=ia+1
   if ia+1==a.size then return lastOfA out ia ib
   if acount<7&&bcount<7 then break
  minGallop:=minGallop+1
  dB minGallop
 unsupported "internal:list.sort.merge-bound"):=rfl
def PI(a b out:Array Keyed)(ia ib:Nat):Prop:=out.toList.Perm (a.toList.take ia++b.toList.take ib)
theorem dU{l:List Keyed}{i:Nat}(h:i<l.length):l.take (i+1)=l.take i++[l[i]]:=by rw[List.take_add_one,List.getElem?_eq_getElem h];rfl
theorem PI.pushA{a b out:Array Keyed}{ia ib:Nat}(h:PI a b out ia ib)(hi:ia<a.size):PI a b (out.push a[ia]) (ia+1) ib:=by
 unfold PI at h ⊢
 rw[Array.toList_push,dU (by simpa using hi),List.append_assoc]
 refine(h.append_right _).trans ?_
 rw[List.append_assoc]
 refine List.Perm.append_left _ ?_
 have:a.toList[ia]'(by simpa using hi)=a[ia]:=by simp
 rw[this]
 exact List.perm_append_comm
theorem eH{a:Array Keyed}{i j:Nat}:(a.extract i j).toList=(a.toList.drop i).take (j-i):=by
 rw[Array.toList_extract,List.extract_eq_take_drop]
theorem aBL{a:Array Keyed}{i k:Nat}(h:i+k<a.size):a.extract i (i+(k+1))=(a.extract i (i+k)).push a[i+k]:=by
 apply Array.toList_inj.mp
 rw[Array.toList_push,eH,eH,Nat.add_sub_cancel_left,Nat.add_sub_cancel_left,dU (by simp;lia)]
 congr 2
 simp
structure MI(key:Keyed→Int)(a b out:Array Keyed)(ia ib:Nat):Prop where
 perm:PI a b out ia ib
 so:out.toList.Pairwise fun x y=>key x≤key y
 la:∀x∈out.toList,ia<a.size→key x≤kk key a ia
 lb:∀x∈out.toList,ib<b.size→key x≤kk key b ib
def Fi(key:Keyed→Int)(a b r:Array Keyed):Prop:=r.Perm (a++b)∧r.toList.Pairwise fun x y=>key x≤key y
section
variable {key:Keyed→Int} {a b out:Array Keyed} {ia ib:Nat}
theorem MI.swap(h:MI key a b out ia ib):MI key b a out ib ia:=⟨h.perm.trans List.perm_append_comm,h.so,h.lb,h.la⟩
theorem MI.pushA(h:MI key a b out ia ib)(hi:ia<a.size)(sa:So key a 0 a.size)(c:ib<b.size→kk key a ia≤kk key b ib):MI key a b (out.push a[ia]) (ia+1) ib:=by
 refine⟨h.perm.pushA hi,?_,fun x hx hl=>?_,fun x hx hl=>?_⟩
 ·rw[Array.toList_push]
  refine List.pairwise_append.mpr ⟨h.so,List.pairwise_singleton _ _,fun x hx y hy=>?_⟩
  rw[List.mem_singleton.mp hy,← cE (key:=key) hi]
  exact h.la x hx hi
 ·rw[Array.toList_push] at hx
  have:=sa ia (ia+1) (by lia) (by lia) hl
  rcases List.mem_append.mp hx with z|z
  ·have:=h.la x z hi;lia
  ·rw[List.mem_singleton.mp z,← cE (key:=key) hi];exact this
 ·rw[Array.toList_push] at hx
  rcases List.mem_append.mp hx with z|z
  ·exact h.lb x z hl
  ·rw[List.mem_singleton.mp z,← cE (key:=key) hi];exact c hl
theorem MI.appA(h:MI key a b out ia ib)(sa:So key a 0 a.size):∀ (k:Nat),ia+k≤a.size→(ib<b.size→∀i,i<k→kk key a (ia+i)≤kk key b ib)→MI key a b (out++a.extract ia (ia+k)) (ia+k) ib
 |0,_,_=>by
  have e:a.extract ia (ia+0)=#[]:=by simp;lia
  rw[e,Array.append_empty];exact h
 |k+1,hk,c=>by
  have:=(MI.appA h sa k (by lia) fun hb i hi=>c hb i (by lia)).pushA (by lia) sa fun hb=>c hb k (by lia)
  rw[aBL (by lia),← Array.push_append]
  exact this
theorem MI.pushB(h:MI key a b out ia ib)(hi:ib<b.size)(sb:So key b 0 b.size)(c:ia<a.size→kk key b ib≤kk key a ia):MI key a b (out.push b[ib]) ia (ib+1):=(h.swap.pushA hi sb c).swap
theorem MI.appB(h:MI key a b out ia ib)(sb:So key b 0 b.size)(k:Nat)(hk:ib+k≤b.size)(c:ia<a.size→∀i,i<k→kk key b (ib+i)≤kk key a ia):MI key a b (out++b.extract ib (ib+k)) ia (ib+k):=(h.swap.appA sb k hk c).swap
theorem MI.fin(h:MI key a b out a.size b.size):Fi key a b out:=by
 refine⟨?_,h.so⟩
 have:=h.perm
 unfold PI at this
 rw[List.take_of_length_le (by simp),List.take_of_length_le (by simp)] at this
 rw[Array.perm_iff_toList_perm,Array.toList_append]
 exact this
theorem MI.done(h:MI key a b out ia ib)(sa:So key a 0 a.size)(sb:So key b 0 b.size)(ha:ia≤a.size)(hb:ib≤b.size)(c:ib<b.size→∀i,i<a.size-ia→kk key a (ia+i)≤kk key b ib):Fi key a b (iL a b out ia ib):=by
 have h1:=h.appA sa (a.size-ia) (by lia) c
 rw[show ia+(a.size-ia)=a.size by lia] at h1
 have h2:=h1.appB sb (b.size-ib) (by lia) fun z=>by lia
 rw[show ib+(b.size-ib)=b.size by lia] at h2
 exact h2.fin
theorem MI.last(h:MI key a b out ia ib)(sa:So key a 0 a.size)(sb:So key b 0 b.size)(ha:ia≤a.size)(hb:ib≤b.size)(c:ia<a.size→∀i,i<b.size-ib→kk key b (ib+i)≤kk key a ia):Fi key a b (oK a b out ia ib):=by
 have:=h.swap.done sb sa hb ha c
 refine⟨this.1.trans ?_,this.2⟩
 rw[Array.perm_iff_toList_perm,Array.toList_append,Array.toList_append]
 exact List.perm_append_comm
end
section
variable {prog:Program} {w:World} {A:Around} {E:Value→Shared→Prop} {s:Shared} {κ:SortKind} {a₀:Array Keyed} {pd:Array (Nat×Nat×Nat)} {ar:Array Keyed} {key:Keyed→Int}
structure Two(key:Keyed→Int)(a₀ a b:Array Keyed):Prop where
 ha:∀x∈a.toList,x∈a₀.toList
 hb:∀x∈b.toList,x∈a₀.toList
 a1:1≤a.size
 b1:1≤b.size
 sa:So key a 0 a.size
 sb:So key b 0 b.size
 c0:kk key b 0≤kk key a 0
 c1:∀i,i<b.size→kk key b i≤kk key a (a.size-1)
theorem Two.last{a b:Array Keyed}(T:Two key a₀ a b){out:Array Keyed}{ia ib:Nat}(h:MI key a b out ia ib)(ha:ia+1=a.size)(hb:ib≤b.size):Fi key a b (oK a b out ia ib):=
 h.last T.sa T.sb (by lia) hb fun _ i hi=>by
  have:=T.c1 (ib+i) (by lia)
  rw[show a.size-1=ia by lia] at this
  exact this
theorem Two.done{a b:Array Keyed}(T:Two key a₀ a b){out:Array Keyed}{ia ib:Nat}(h:MI key a b out ia ib)(ha:ia≤a.size)(hb:ib=b.size):Fi key a b (iL a b out ia ib):=
 h.done T.sa T.sb ha (by lia) fun z=>by lia
def GP(κ:SortKind)(ar:Array Keyed)(pd:Array (Nat×Nat×Nat))(key:Keyed→Int)(a b:Array Keyed)(n:Nat)(r:ForInStep GSt)(st:SortSt):Prop:=SM κ ar pd st∧
 ((∃x c,r=.done (some x,c)∧Fi key a b x)∨∃out ia ib mg ac bc,(r=.done (none,out,ia,ib,mg,ac,bc)∨r=.yield (none,out,ia,ib,mg,ac,bc))∧MI key a b out ia ib∧ia+1<a.size∧ib<b.size∧n≤ia+ib)
theorem wR{st:SortSt}{a b out:Array Keyed}{ia ib mg ac bc n:Nat}(T:Two key a₀ a b)(hB:SM κ ar pd st)(h:MI key a b out ia ib)(la:ia+1<a.size)(lb:ib<b.size)(li:n≤ia+ib)(c:kk key a ia≤kk key b ib):
  wpS (model prog w) A E s (loC a b out ia ib mg ac bc) (GP κ ar pd key a b n) st:=by
 unfold loC
 refine wpS_bind (bQ (getElem?_pos a ia (by lia)) ?_)
 have p:=h.pushA (show ia<a.size by lia) T.sa fun _=>c
 by_cases f:(ia+1+1==a.size)=true
 ·rw[if_pos f];exact wpS_pure ⟨hB,.inl ⟨_,_,rfl,T.last p (by simpa using f) (by lia)⟩⟩
 rw[if_neg f]
 have g:¬ (ia+1+1=a.size):=by simpa using f
 split
 ·exact wpS_pure ⟨hB,.inr ⟨_,_,_,_,_,_,.inl rfl,p,by lia,by lia,by lia⟩⟩
 ·exact wpS_pure ⟨hB,.inr ⟨_,_,_,_,_,_,.inr rfl,p,by lia,by lia,by lia⟩⟩
theorem wS{st:SortSt}{a b out:Array Keyed}{ia ib mg ac bc n:Nat}(hC:Cmp prog w A s κ a₀ key)(T:Two key a₀ a b)(hB:SM κ ar pd st)(h:MI key a b out ia ib)(la:ia+1<a.size)(lb:ib<b.size)(li:n≤ia+ib)(c:kk key b ib≤kk key a ia):
  wpS (model prog w) A E s (loB a b out ia ib mg ac bc) (GP κ ar pd key a b n) st:=by
 unfold loB
 refine wpS_bind (bQ (getElem?_pos b ib (by lia)) ?_)
 have p:=h.pushB lb T.sb fun _=>c
 by_cases f:(ib+1==b.size)=true
 ·rw[if_pos f];exact wpS_pure ⟨hB,.inl ⟨_,_,rfl,T.done p (by lia) (by simpa using f)⟩⟩
 rw[if_neg f]
 have g:¬ (ib+1=b.size):=by simpa using f
 refine wpS_bind (bQ (getElem?_pos a ia (by lia)) ?_)
 refine wpS_bind (eY hC hB.kind (T.ha _ (by simp)) T.hb (by lia) (by lia) (fun i j h1 h2 h3=>T.sb i j (by lia) h2 (by lia)) fun k hk q1 q2=>?_)
 rw[← cE (key:=key) (a:=a) (i:=ia) (by lia)] at q1 q2
 simp only[thr,if_true] at q1 q2
 dsimp only
 by_cases kp:k > 0
 ·rw[if_pos kp]
  have p2:=p.appB T.sb k (by lia) fun _ i hi=>by have:=q1 i hi;lia
  by_cases f2:(ib+1+k==b.size)=true
  ·rw[if_pos f2];exact wpS_pure ⟨hB,.inl ⟨_,_,rfl,T.done p2 (by lia) (by simpa using f2)⟩⟩
  rw[if_neg f2]
  have g2:¬ (ib+1+k=b.size):=by simpa using f2
  exact wR T hB p2 la (by lia) (by lia) (q2 k (by lia) (by lia))
 ·rw[if_neg kp]
  have e:k=0:=by lia
  subst e
  exact wR T hB p la (by lia) (by lia) (q2 0 (by lia) (by lia))
theorem aCV{st:SortSt}{a b out:Array Keyed}{ia ib mg ac bc n:Nat}(hC:Cmp prog w A s κ a₀ key)(T:Two key a₀ a b)(hB:SM κ ar pd st)(h:MI key a b out ia ib)(la:ia+1<a.size)(lb:ib<b.size)(li:n≤ia+ib):
  wpS (model prog w) A E s (loA a b out ia ib mg ac bc) (GP κ ar pd key a b n) st:=by
 unfold loA
 rw[eG]
 refine wpS_bind (wpS_modify ?_)
 have hB2:SM κ ar pd (SortSt.mk' (kindOf st) (arrOf st) (pendingOf st) mg (failedOf st)):=⟨hB.arr,hB.kind,hB.failed,hB.pend⟩
 refine wpS_bind (bQ (getElem?_pos b ib (by lia)) ?_)
 refine wpS_bind (eY hC hB2.kind (T.hb _ (by simp)) T.ha (by lia) (by lia) (fun i j h1 h2 h3=>T.sa i j (by lia) h2 (by lia)) fun k hk q1 q2=>?_)
 rw[← cE (key:=key) (a:=b) (i:=ib) (by lia)] at q1 q2
 simp only[thr,Bool.false_eq_true,if_false] at q1 q2
 dsimp only
 by_cases kp:k > 0
 ·rw[if_pos kp]
  have p2:=h.appA T.sa k (by lia) fun _ i hi=>by have:=q1 i hi;lia
  by_cases f4:(ia+k+1==a.size)=true
  ·rw[if_pos f4];exact wpS_pure ⟨hB2,.inl ⟨_,_,rfl,T.last p2 (by simpa using f4) (by lia)⟩⟩
  rw[if_neg f4]
  have g4:¬ (ia+k+1=a.size):=by simpa using f4
  by_cases f5:(ia+k==a.size)=true
  ·rw[if_pos f5]
   have g5:ia+k=a.size:=by simpa using f5
   exact wpS_pure ⟨hB2,.inl ⟨_,_,rfl,p2.done T.sa T.sb (by lia) (by lia) fun _ i hi=>by lia⟩⟩
  rw[if_neg f5]
  have g5:¬ (ia+k=a.size):=by simpa using f5
  exact wS hC T hB2 p2 (by lia) lb (by lia) (by have:=q2 k (by lia) (by lia);lia)
 ·rw[if_neg kp]
  have e:k=0:=by lia
  subst e
  exact wS hC T hB2 h la lb li (by have:=q2 0 (by lia) (by lia);rw[Nat.add_zero] at this;lia)
theorem vL{st:SortSt}{a b:Array Keyed}{Q:Array Keyed→SortSt→Prop}(hC:Cmp prog w A s κ a₀ key)(hB:SM κ ar pd st)(T:Two key a₀ a b)(h:∀out st',Fi key a b out→SM κ ar pd st'→Q out st'):wpS (model prog w) A E s (nE a b) Q st:=by
 have a1:=T.a1
 have b1:=T.b1
 rw[vK]
 refine wpS_bind (wpS_lift (wpAny_rule ⟨rfl,?_⟩))
 refine wpS_bind (bQ (getElem?_pos b 0 (by lia)) ?_)
 dsimp only
 have p0:MI key a b #[b[0]] 0 1:=by
  have:MI key a b #[] 0 0:=⟨by unfold PI;simp,List.Pairwise.nil,fun x hx=>by simp at hx,fun x hx=>by simp at hx⟩
  exact this.pushB (by lia) T.sb fun _=>T.c0
 by_cases e1:(1==b.size)=true
 ·rw[if_pos e1]
  exact wpS_pure (h _ _ (T.done p0 (by lia) (by simpa using e1)) hB)
 rw[if_neg e1]
 have n1:¬ (1=b.size):=by simpa using e1
 by_cases e2:(0+1==a.size)=true
 ·rw[if_pos e2]
  exact wpS_pure (h _ _ (T.last p0 (by simpa using e2) (by lia)) hB)
 rw[if_neg e2]
 have n2:¬ (0+1=a.size):=by simpa using e2
 refine wpS_bind (wpS_get ?_)
 refine wpS_bind (wpS_mono (wpS_forRange (I:=fun i c st'=>SM κ ar pd st'∧∃out ia ib mg,c=(none,out,ia,ib,mg)∧MI key a b out ia ib∧ia+1<a.size∧ib<b.size∧i≤ia+ib) (Q:=fun c st'=>SM κ ar pd st'∧∃r c',c=(some r,c')∧Fi key a b r) ?_ ?_ ⟨hB,_,_,_,_,rfl,p0,by lia,by lia,by lia⟩) ?_)
 ·rintro i c st1 _ hi ⟨hB0,out,ia,ib,mg,rfl,p1,la,lb,li⟩
  dsimp only
  refine wpS_bind (wpS_mono (wpS_forRange (I:=fun x c st'=>SM κ ar pd st'∧∃out ia ib ac bc,c=(none,out,ia,ib,ac,bc)∧MI key a b out ia ib∧ia+1<a.size∧ib<b.size∧i+x≤ia+ib) (Q:=fun c st'=>SM κ ar pd st'∧((∃r c',c=(some r,c')∧Fi key a b r)∨∃out ia ib ac bc,c=(none,out,ia,ib,ac,bc)∧MI key a b out ia ib∧ia+1<a.size∧ib<b.size∧i+1≤ia+ib)) ?_ ?_ ⟨hB0,_,_,_,_,_,rfl,p1,la,lb,by lia⟩) ?_)
  ·rintro x c st2 _ hx ⟨hB1,out,ia,ib,ac,bc,rfl,p1,la,lb,li⟩
   dsimp only
   refine wpS_bind (bQ (getElem?_pos b ib (by lia)) ?_)
   refine wpS_bind (bQ (getElem?_pos a ia (by lia)) ?_)
   refine wpS_bind (lE hC hB1.kind (T.hb _ (by simp)) (T.ha _ (by simp)) ?_)
   rw[← cE (key:=key) (a:=b) (i:=ib) (by lia),← cE (key:=key) (a:=a) (i:=ia) (by lia)]
   by_cases bw:kk key b ib<kk key a ia
   ·rw[decide_eq_true bw]
    dsimp only
    rw[if_pos rfl]
    refine wpS_bind (bQ (getElem?_pos b ib (by lia)) ?_)
    have p2:=p1.pushB (show ib<b.size by lia) T.sb fun _=>by lia
    by_cases f1:(ib+1==b.size)=true
    ·rw[if_pos f1];exact wpS_pure ⟨hB1,.inl ⟨_,_,rfl,T.done p2 (by lia) (by simpa using f1)⟩⟩
    rw[if_neg f1]
    have g1:¬ (ib+1=b.size):=by simpa using f1
    split
    ·exact wpS_pure ⟨hB1,.inr ⟨_,_,_,_,_,rfl,p2,by lia,by lia,by lia⟩⟩
    ·exact wpS_pure ⟨hB1,_,_,_,_,_,rfl,p2,by lia,by lia,by lia⟩
   ·rw[decide_eq_false bw]
    dsimp only
    rw[if_neg (by decide)]
    refine wpS_bind (bQ (getElem?_pos a ia (by lia)) ?_)
    have p2:=p1.pushA (show ia<a.size by lia) T.sa fun _=>by lia
    by_cases f1:(ia+1+1==a.size)=true
    ·rw[if_pos f1];exact wpS_pure ⟨hB1,.inl ⟨_,_,rfl,T.last p2 (by simpa using f1) (by lia)⟩⟩
    rw[if_neg f1]
    have g1:¬ (ia+1+1=a.size):=by simpa using f1
    split
    ·exact wpS_pure ⟨hB1,.inr ⟨_,_,_,_,_,rfl,p2,by lia,by lia,by lia⟩⟩
    ·exact wpS_pure ⟨hB1,_,_,_,_,_,rfl,p2,by lia,by lia,by lia⟩
  ·rintro c st2 ⟨hB1,out,ia,ib,ac,bc,rfl,p1,la,lb,li⟩
   exact⟨hB1,.inr ⟨_,_,_,_,_,rfl,p1,la,lb,by lia⟩⟩
  ·rintro c st2 ⟨hB1,⟨r,c',rfl,hp⟩|⟨out,ia,ib,ac,bc,rfl,p1,la,lb,li⟩⟩
   ·exact wpS_pure ⟨hB1,_,_,rfl,hp⟩
   ·dsimp only
    refine wpS_bind (wpS_lift (wpAny_rule ⟨rfl,?_⟩))
    refine wpS_bind (wpS_mono (wpS_forRange (I:=fun x c st'=>SM κ ar pd st'∧∃out ia ib mg ac bc,c=(none,out,ia,ib,mg,ac,bc)∧MI key a b out ia ib∧ia+1<a.size∧ib<b.size∧i+1≤ia+ib) (Q:=fun c st'=>SM κ ar pd st'∧((∃r c',c=(some r,c')∧Fi key a b r)∨∃out ia ib mg ac bc,c=(none,out,ia,ib,mg,ac,bc)∧MI key a b out ia ib∧ia+1<a.size∧ib<b.size∧i+1≤ia+ib)) ?_ ?_ ⟨hB1,_,_,_,_,_,_,rfl,p1,la,lb,li⟩) ?_)
    ·rintro x c st2 _ hx ⟨hB1,out,ia,ib,mg,ac,bc,rfl,p1,la,lb,li⟩
     change wpS (model prog w) A E s (if mg > 1 then loA a b out ia ib (mg-1) ac bc else loA a b out ia ib mg ac bc) _ st2
     split <;>
     ·refine wpS_mono (aCV hC T hB1 p1 la lb li) ?_
      rintro r st' ⟨m,⟨x,c,rfl,hf⟩|⟨out,ia,ib,mg,ac,bc,rfl|rfl,hh⟩⟩
      ·exact⟨m,.inl ⟨_,_,rfl,hf⟩⟩
      ·exact⟨m,.inr ⟨_,_,_,_,_,_,rfl,hh⟩⟩
      ·exact⟨m,_,_,_,_,_,_,rfl,hh⟩
    ·rintro c st2 ⟨hB1,hh⟩
     exact⟨hB1,.inr hh⟩
    ·rintro c st2 ⟨hB1,⟨r,c',rfl,hp⟩|⟨out,ia,ib,mg,ac,bc,rfl,p1,la,lb,li⟩⟩
     ·exact wpS_pure ⟨hB1,_,_,rfl,hp⟩
     ·dsimp only
      rw[eG]
      refine wpS_bind (wpS_modify ?_)
      exact wpS_pure ⟨⟨hB1.arr,hB1.kind,hB1.failed,hB1.pend⟩,_,_,_,_,rfl,p1,la,lb,li⟩
 ·rintro c st1 ⟨hB0,out,ia,ib,mg,rfl,p1,la,lb,li⟩
  lia
 ·rintro c st1 ⟨hB0,r,c',rfl,hp⟩
  exact wpS_pure (h r st1 hp hB0)
end
end PyProof.Rows
namespace PyProof.Rows
open PySem
abbrev HSt:=Option (Array Keyed)×Nat×Nat×Array Keyed×Nat×Nat×Nat
abbrev iM(a b out:Array Keyed)(na nb:Nat):=a.extract 0 na++b.extract 0 nb++out.reverse
abbrev jM(a b out:Array Keyed)(na nb:Nat):=b.extract 0 nb++a.extract 0 na++out.reverse
def hiC(a b:Array Keyed)(na nb:Nat)(out:Array Keyed)(mg ac bc:Nat):StateT SortSt Sem (ForInStep HSt):=do
 let x ← elem' a (na-1)
 if na-1==0 then pure (.done (some (iM a b (out.push x) (na-1) nb),na-1,nb,out.push x,mg,ac,bc))
 else if ac<7&&bc<7 then pure (.done (none,na-1,nb,out.push x,mg,ac,bc)) else pure (.yield (none,na-1,nb,out.push x,mg,ac,bc))
def hiB(a b:Array Keyed)(na nb:Nat)(out:Array Keyed)(mg ac bc:Nat):StateT SortSt Sem (ForInStep HSt):=do
 let x ← elem' b (nb-1)
 if nb-1==1 then pure (.done (some (jM a b (out.push x) na (nb-1)),na,nb-1,out.push x,mg,ac,bc))
 else do
  let some at_ ← dP true (← elem' a (na-1)) b 0 (nb-1) (nb-1-1)|pure (.done (some (iM a b (out.push x) na (nb-1)),na,nb-1,out.push x,mg,ac,bc))
  if nb-1-at_ > 0 then
   if at_==1 then pure (.done (some (jM a b (out.push x++(b.extract at_ (nb-1)).reverse) na at_),na,at_,out.push x++(b.extract at_ (nb-1)).reverse,mg,ac,nb-1-at_))
   else if at_==0 then pure (.done (some (iM a b (out.push x++(b.extract at_ (nb-1)).reverse) na at_),na,at_,out.push x++(b.extract at_ (nb-1)).reverse,mg,ac,nb-1-at_))
   else hiC a b na at_ (out.push x++(b.extract at_ (nb-1)).reverse) mg ac (nb-1-at_)
  else hiC a b na (nb-1) (out.push x) mg ac (nb-1-at_)
def hiA(a b:Array Keyed)(na nb:Nat)(out:Array Keyed)(mg ac bc:Nat):StateT SortSt Sem (ForInStep HSt):=do
 dB mg
 let some at_ ← dP false (← elem' b (nb-1)) a 0 na (na-1)|pure (.done (some (iM a b out na nb),na,nb,out,mg,ac,bc))
 if na-at_ > 0 then
  if at_==0 then pure (.done (some (iM a b (out++(a.extract at_ na).reverse) at_ nb),at_,nb,out++(a.extract at_ na).reverse,mg,na-at_,bc))
  else hiB a b at_ nb (out++(a.extract at_ na).reverse) mg (na-at_) bc
 else hiB a b na nb out mg (na-at_) bc
theorem vM(a b:Array Keyed):nF a b=(do
 rule "list.sort.merge-hi"
 let total:=a.size+b.size
 let done (out:Array Keyed) (na nb:Nat):=a.extract 0 na++b.extract 0 nb++out.reverse
 let firstOfB (out:Array Keyed) (na nb:Nat):=b.extract 0 nb++a.extract 0 na++out.reverse
 let mut na:=a.size-1
 let mut nb:=b.size
 let mut out:Array Keyed:=#[← elem' a na]
 if na==0 then return done out na nb
 if nb==1 then return firstOfB out na nb
 let mut minGallop:=gallopOf (← get)
 for _ in [0:total] do
  let mut acount:=0
  let mut bcount:=0
  for _ in [0:total] do
   let some aWins ← lt' (← elem' b (nb-1)) (← elem' a (na-1))|return done out na nb
   if aWins then
    na:=na-1;out:=out.push (← elem' a na);acount:=acount+1;bcount:=0
    if na==0 then return done out na nb
    if acount≥minGallop then break
   else
    nb:=nb-1;out:=out.push (← elem' b nb);bcount:=bcount+1;acount:=0
    if nb==1 then return firstOfB out na nb
    if bcount≥minGallop then break
  rule "list.sort.gallop"
  minGallop:=minGallop+1
  for _ in [0:total] do
   if minGallop > 1 then minGallop:=minGallop-1
   dB minGallop
   let some at_ ← dP false (← elem' b (nb-1)) a 0 na (na-1)|return done out na nb
   let k:=na-at_
   acount:=k
   if k > 0 then
    out:=out++(a.extract at_ na).reverse;na:=at_
    if na==0 then return done out na nb
   nb:=nb-1;out:=out.push (← elem' b nb)
   if nb==1 then return firstOfB out na nb
   let some at_ ← dP true (← elem' a (na-1)) b 0 nb (nb-1)|return done out na nb
   let k:=nb-at_
   bcount:=k
   if k > 0 then
    out:=out++(b.extract at_ nb).reverse;nb:=at_
    if nb==1 then return firstOfB out na nb
    if nb==0 then return done out na nb
   na:=na-1;out:=out.push (← elem' a na)
   if na==0 then return done out na nb
   if acount<7&&bcount<7 then break
  minGallop:=minGallop+1
  dB minGallop
 unsupported "internal:list.sort.merge-bound"):=rfl
def PH(a b out:Array Keyed)(na nb:Nat):Prop:=out.toList.Perm (a.toList.drop na++b.toList.drop nb)
theorem PH.pushA{a b out:Array Keyed}{na nb:Nat}(h:PH a b out na nb)(h1:1≤na)(hi:na-1<a.size):PH a b (out.push a[na-1]) (na-1) nb:=by
 unfold PH at h ⊢
 have e:a.toList.drop (na-1)=a[na-1]::a.toList.drop na:=by
  have:=List.drop_eq_getElem_cons (l:=a.toList) (i:=na-1) (by simpa using hi)
  rw[this,Nat.sub_add_cancel h1]
  simp
 rw[Array.toList_push,e]
 refine(h.append_right _).trans ?_
 exact List.perm_append_comm
theorem aCW{a:Array Keyed}{k n:Nat}(h:k<n)(hn:n≤a.size):(a.extract k n).reverse=(a.extract (k+1) n).reverse.push a[k]:=by
 apply Array.toList_inj.mp
 rw[Array.toList_push,Array.toList_reverse,Array.toList_reverse,eH,eH]
 have e:=List.drop_eq_getElem_cons (l:=a.toList) (i:=k) (by simp;lia)
 rw[e,show n-k=(n-(k+1))+1 by lia,List.take_succ_cons,List.reverse_cons]
 congr 2
theorem tI{l:List Keyed}{i j:Nat}(h:i≤j):l.drop i=(l.drop i).take (j-i)++l.drop j:=by
 have:=(List.take_append_drop (j-i) (l.drop i)).symm
 rw[List.drop_drop,show i+(j-i)=j by lia] at this
 exact this
structure HI(key:Keyed→Int)(a b out:Array Keyed)(na nb:Nat):Prop where
 perm:PH a b out na nb
 so:out.toList.Pairwise fun x y=>key y≤key x
 la:∀x∈out.toList,0<na→kk key a (na-1)≤key x
 lb:∀x∈out.toList,0<nb→kk key b (nb-1)≤key x
section
variable {key:Keyed→Int} {a b out:Array Keyed} {na nb:Nat}
theorem HI.swap(h:HI key a b out na nb):HI key b a out nb na:=⟨h.perm.trans List.perm_append_comm,h.so,h.lb,h.la⟩
theorem HI.pushA(h:HI key a b out na nb)(h1:1≤na)(hi:na-1<a.size)(sa:So key a 0 a.size)(c:0<nb→kk key b (nb-1)≤kk key a (na-1)):HI key a b (out.push a[na-1]) (na-1) nb:=by
 refine⟨h.perm.pushA h1 hi,?_,fun x hx hl=>?_,fun x hx hl=>?_⟩
 ·rw[Array.toList_push]
  refine List.pairwise_append.mpr ⟨h.so,List.pairwise_singleton _ _,fun x hx y hy=>?_⟩
  rw[List.mem_singleton.mp hy,← cE (key:=key) hi]
  exact h.la x hx (by lia)
 ·rw[Array.toList_push] at hx
  have:=sa (na-1-1) (na-1) (by lia) (by lia) hi
  rcases List.mem_append.mp hx with z|z
  ·have:=h.la x z (by lia);lia
  ·rw[List.mem_singleton.mp z,← cE (key:=key) hi];exact this
 ·rw[Array.toList_push] at hx
  rcases List.mem_append.mp hx with z|z
  ·exact h.lb x z hl
  ·rw[List.mem_singleton.mp z,← cE (key:=key) hi];exact c hl
theorem HI.appA(h:HI key a b out na nb)(sa:So key a 0 a.size)(hn:na≤a.size):∀ (d k:Nat),na=k+d→(0<nb→∀i,k≤i→i<na→kk key b (nb-1)≤kk key a i)→HI key a b (out++(a.extract k na).reverse) k nb
 |0,k,e,_=>by
  have e':a.extract k na=#[]:=by simp;lia
  have e2:k=na:=by lia
  subst e2
  rw[e',Array.reverse_empty,Array.append_empty];exact h
 |d+1,k,e,c=>by
  have:=(HI.appA h sa hn d (k+1) (by lia) fun hb i h1 h2=>c hb i (by lia) h2).pushA (by lia) (by lia) sa fun hb=>c hb _ (by lia) (by lia)
  rw[aCW (by lia) hn,← Array.push_append]
  exact this
theorem HI.pushB(h:HI key a b out na nb)(h1:1≤nb)(hi:nb-1<b.size)(sb:So key b 0 b.size)(c:0<na→kk key a (na-1)≤kk key b (nb-1)):HI key a b (out.push b[nb-1]) na (nb-1):=(h.swap.pushA h1 hi sb c).swap
theorem HI.appB(h:HI key a b out na nb)(sb:So key b 0 b.size)(hn:nb≤b.size)(k:Nat)(hk:k≤nb)(c:0<na→∀i,k≤i→i<nb→kk key a (na-1)≤kk key b i):HI key a b (out++(b.extract k nb).reverse) na k:=(h.swap.appA sb hn (nb-k) k (by lia) c).swap
theorem HI.first(h:HI key a b out na nb)(sa:So key a 0 a.size)(sb:So key b 0 b.size)(ha:na≤a.size)(hb:nb≤b.size)(c:0<nb→∀i,i<na→kk key b (nb-1)≤kk key a i):Fi key a b (jM a b out na nb):=by
 have h1:=h.appA sa ha na 0 (by lia) fun z i _ hi=>c z i hi
 have h2:=h1.appB sb hb 0 (by lia) fun z=>by lia
 have e:jM a b out na nb=(out++(a.extract 0 na).reverse++(b.extract 0 nb).reverse).reverse:=by simp
 rw[e]
 refine⟨?_,?_⟩
 ·have:=h2.perm
  unfold PH at this
  rw[List.drop_zero,List.drop_zero] at this
  rw[Array.perm_iff_toList_perm,Array.toList_reverse,Array.toList_append (xs:=a)]
  exact(List.reverse_perm _).trans this
 ·rw[Array.toList_reverse,List.pairwise_reverse]
  exact h2.so
theorem HI.done(h:HI key a b out na nb)(sa:So key a 0 a.size)(sb:So key b 0 b.size)(ha:na≤a.size)(hb:nb≤b.size)(c:0<na→∀i,i<nb→kk key a (na-1)≤kk key b i):Fi key a b (iM a b out na nb):=by
 have:=h.swap.first sb sa hb ha c
 refine⟨this.1.trans ?_,this.2⟩
 rw[Array.perm_iff_toList_perm,Array.toList_append,Array.toList_append]
 exact List.perm_append_comm
end
section
variable {prog:Program} {w:World} {A:Around} {E:Value→Shared→Prop} {s:Shared} {κ:SortKind} {a₀:Array Keyed} {pd:Array (Nat×Nat×Nat)} {ar:Array Keyed} {key:Keyed→Int}
theorem Two.first{a b:Array Keyed}(T:Two key a₀ a b){out:Array Keyed}{na nb:Nat}(h:HI key a b out na nb)(ha:na≤a.size)(hb:nb=1):Fi key a b (jM a b out na nb):=
 h.first T.sa T.sb ha (by have:=T.b1;lia) fun _ i hi=>by
  have h0:=T.c0
  have h1:=T.sa 0 i (by lia) (by lia) (by lia)
  rw[show nb-1=0 by lia]
  lia
theorem Two.doneH{a b:Array Keyed}(T:Two key a₀ a b){out:Array Keyed}{na nb:Nat}(h:HI key a b out na nb)(ha:na≤a.size)(hb:nb≤b.size)(hz:na=0∨nb=0):Fi key a b (iM a b out na nb):=
 h.done T.sa T.sb ha hb fun z i hi=>by lia
def GH(κ:SortKind)(ar:Array Keyed)(pd:Array (Nat×Nat×Nat))(key:Keyed→Int)(a b:Array Keyed)(n:Nat)(r:ForInStep HSt)(st:SortSt):Prop:=SM κ ar pd st∧
 ((∃x c,r=.done (some x,c)∧Fi key a b x)∨∃na nb out mg ac bc,(r=.done (none,na,nb,out,mg,ac,bc)∨r=.yield (none,na,nb,out,mg,ac,bc))∧HI key a b out na nb∧1≤na∧2≤nb∧na≤a.size∧nb≤b.size∧n+na+nb≤a.size+b.size)
theorem wT{st:SortSt}{a b out:Array Keyed}{na nb mg ac bc n:Nat}(T:Two key a₀ a b)(hB:SM κ ar pd st)(h:HI key a b out na nb)(la:1≤na)(lb:2≤nb)(ma:na≤a.size)(mb:nb≤b.size)(li:n+na+nb≤a.size+b.size)(c:kk key b (nb-1)≤kk key a (na-1)):
  wpS (model prog w) A E s (hiC a b na nb out mg ac bc) (GH κ ar pd key a b n) st:=by
 unfold hiC
 refine wpS_bind (bQ (getElem?_pos a (na-1) (by lia)) ?_)
 have p:=h.pushA la (show na-1<a.size by lia) T.sa fun _=>c
 by_cases f:(na-1==0)=true
 ·rw[if_pos f];exact wpS_pure ⟨hB,.inl ⟨_,_,rfl,T.doneH p (by lia) (by lia) (.inl (by simpa using f))⟩⟩
 rw[if_neg f]
 have g:¬ (na-1=0):=by simpa using f
 split
 ·exact wpS_pure ⟨hB,.inr ⟨_,_,_,_,_,_,.inl rfl,p,by lia,by lia,by lia,by lia,by lia⟩⟩
 ·exact wpS_pure ⟨hB,.inr ⟨_,_,_,_,_,_,.inr rfl,p,by lia,by lia,by lia,by lia,by lia⟩⟩
theorem wU{st:SortSt}{a b out:Array Keyed}{na nb mg ac bc n:Nat}(hC:Cmp prog w A s κ a₀ key)(T:Two key a₀ a b)(hB:SM κ ar pd st)(h:HI key a b out na nb)(la:1≤na)(lb:2≤nb)(ma:na≤a.size)(mb:nb≤b.size)(li:n+na+nb≤a.size+b.size)(c:kk key a (na-1)≤kk key b (nb-1)):
  wpS (model prog w) A E s (hiB a b na nb out mg ac bc) (GH κ ar pd key a b n) st:=by
 unfold hiB
 refine wpS_bind (bQ (getElem?_pos b (nb-1) (by lia)) ?_)
 have p:=h.pushB (by lia) (show nb-1<b.size by lia) T.sb fun _=>c
 by_cases f:(nb-1==1)=true
 ·rw[if_pos f];exact wpS_pure ⟨hB,.inl ⟨_,_,rfl,T.first p (by lia) (by simpa using f)⟩⟩
 rw[if_neg f]
 have g:¬ (nb-1=1):=by simpa using f
 refine wpS_bind (bQ (getElem?_pos a (na-1) (by lia)) ?_)
 refine wpS_bind (eY hC hB.kind (T.ha _ (by simp)) T.hb (by lia) (by lia) (fun i j h1 h2 h3=>T.sb i j (by lia) h2 (by lia)) fun k hk q1 q2=>?_)
 rw[← cE (key:=key) (a:=a) (i:=na-1) (by lia)] at q1 q2
 simp only[thr,if_true,Nat.zero_add] at q1 q2
 dsimp only
 by_cases kp:nb-1-k > 0
 ·rw[if_pos kp]
  have p2:=p.appB T.sb (by lia) k hk fun _ i h1 h2=>q2 i h1 h2
  by_cases f2:(k==1)=true
  ·rw[if_pos f2];exact wpS_pure ⟨hB,.inl ⟨_,_,rfl,T.first p2 (by lia) (by simpa using f2)⟩⟩
  rw[if_neg f2]
  have g2:¬ (k=1):=by simpa using f2
  by_cases f6:(k==0)=true
  ·rw[if_pos f6];exact wpS_pure ⟨hB,.inl ⟨_,_,rfl,T.doneH p2 (by lia) (by lia) (.inr (by simpa using f6))⟩⟩
  rw[if_neg f6]
  have g6:¬ (k=0):=by simpa using f6
  exact wT T hB p2 la (by lia) ma (by lia) (by lia) (by have:=q1 (k-1) (by lia);lia)
 ·rw[if_neg kp]
  have e:k=nb-1:=by lia
  subst e
  exact wT T hB p la (by lia) ma (by lia) (by lia) (by have:=q1 (nb-1-1) (by lia);lia)
theorem aCX{st:SortSt}{a b out:Array Keyed}{na nb mg ac bc n:Nat}(hC:Cmp prog w A s κ a₀ key)(T:Two key a₀ a b)(hB:SM κ ar pd st)(h:HI key a b out na nb)(la:1≤na)(lb:2≤nb)(ma:na≤a.size)(mb:nb≤b.size)(li:n+na+nb≤a.size+b.size):
  wpS (model prog w) A E s (hiA a b na nb out mg ac bc) (GH κ ar pd key a b n) st:=by
 unfold hiA
 rw[eG]
 refine wpS_bind (wpS_modify ?_)
 have hB2:SM κ ar pd (SortSt.mk' (kindOf st) (arrOf st) (pendingOf st) mg (failedOf st)):=⟨hB.arr,hB.kind,hB.failed,hB.pend⟩
 refine wpS_bind (bQ (getElem?_pos b (nb-1) (by lia)) ?_)
 refine wpS_bind (eY hC hB2.kind (T.hb _ (by simp)) T.ha (by lia) (by lia) (fun i j h1 h2 h3=>T.sa i j (by lia) h2 (by lia)) fun k hk q1 q2=>?_)
 rw[← cE (key:=key) (a:=b) (i:=nb-1) (by lia)] at q1 q2
 simp only[thr,Bool.false_eq_true,if_false,Nat.zero_add] at q1 q2
 dsimp only
 by_cases kp:na-k > 0
 ·rw[if_pos kp]
  have p2:=h.appA T.sa ma (na-k) k (by lia) fun _ i h1 h2=>by have:=q2 i h1 h2;lia
  by_cases f4:(k==0)=true
  ·rw[if_pos f4];exact wpS_pure ⟨hB2,.inl ⟨_,_,rfl,T.doneH p2 (by lia) (by lia) (.inl (by simpa using f4))⟩⟩
  rw[if_neg f4]
  have g4:¬ (k=0):=by simpa using f4
  exact wU hC T hB2 p2 (by lia) lb (by lia) mb (by lia) (by have:=q1 (k-1) (by lia);lia)
 ·rw[if_neg kp]
  have e:k=na:=by lia
  subst e
  exact wU hC T hB2 h la lb ma mb li (by have:=q1 (k-1) (by lia);lia)
theorem vN{st:SortSt}{a b:Array Keyed}{Q:Array Keyed→SortSt→Prop}(hC:Cmp prog w A s κ a₀ key)(hB:SM κ ar pd st)(T:Two key a₀ a b)(h:∀out st',Fi key a b out→SM κ ar pd st'→Q out st'):wpS (model prog w) A E s (nF a b) Q st:=by
 have a1:=T.a1
 have b1:=T.b1
 rw[vM]
 refine wpS_bind (wpS_lift (wpAny_rule ⟨rfl,?_⟩))
 refine wpS_bind (bQ (getElem?_pos a (a.size-1) (by lia)) ?_)
 dsimp only
 have p0:HI key a b #[a[a.size-1]] (a.size-1) b.size:=by
  have:HI key a b #[] a.size b.size:=⟨by unfold PH;simp,List.Pairwise.nil,fun x hx=>by simp at hx,fun x hx=>by simp at hx⟩
  exact this.pushA a1 (by lia) T.sa fun _=>T.c1 _ (by lia)
 by_cases e1:(a.size-1==0)=true
 ·rw[if_pos e1]
  exact wpS_pure (h _ _ (T.doneH p0 (by lia) (by lia) (.inl (by simpa using e1))) hB)
 rw[if_neg e1]
 have n1:¬ (a.size-1=0):=by simpa using e1
 by_cases e2:(b.size==1)=true
 ·rw[if_pos e2]
  exact wpS_pure (h _ _ (T.first p0 (by lia) (by simpa using e2)) hB)
 rw[if_neg e2]
 have n2:¬ (b.size=1):=by simpa using e2
 refine wpS_bind (wpS_get ?_)
 refine wpS_bind (wpS_mono (wpS_forRange (I:=fun i c st'=>SM κ ar pd st'∧∃na nb out mg,c=(none,na,nb,out,mg)∧HI key a b out na nb∧1≤na∧2≤nb∧na≤a.size∧nb≤b.size∧i+na+nb≤a.size+b.size) (Q:=fun c st'=>SM κ ar pd st'∧∃r c',c=(some r,c')∧Fi key a b r) ?_ ?_ ⟨hB,_,_,_,_,rfl,p0,by lia,by lia,by lia,by lia,by lia⟩) ?_)
 ·rintro i c st1 _ hi ⟨hB0,na,nb,out,mg,rfl,p1,la,lb,ma,mb,li⟩
  dsimp only
  refine wpS_bind (wpS_mono (wpS_forRange (I:=fun x c st'=>SM κ ar pd st'∧∃na nb out ac bc,c=(none,na,nb,out,ac,bc)∧HI key a b out na nb∧1≤na∧2≤nb∧na≤a.size∧nb≤b.size∧i+x+na+nb≤a.size+b.size) (Q:=fun c st'=>SM κ ar pd st'∧((∃r c',c=(some r,c')∧Fi key a b r)∨∃na nb out ac bc,c=(none,na,nb,out,ac,bc)∧HI key a b out na nb∧1≤na∧2≤nb∧na≤a.size∧nb≤b.size∧i+1+na+nb≤a.size+b.size)) ?_ ?_ ⟨hB0,_,_,_,_,_,rfl,p1,la,lb,ma,mb,by lia⟩) ?_)
  ·rintro x c st2 _ hx ⟨hB1,na,nb,out,ac,bc,rfl,p1,la,lb,ma,mb,li⟩
   dsimp only
   refine wpS_bind (bQ (getElem?_pos b (nb-1) (by lia)) ?_)
   refine wpS_bind (bQ (getElem?_pos a (na-1) (by lia)) ?_)
   refine wpS_bind (lE hC hB1.kind (T.hb _ (by simp)) (T.ha _ (by simp)) ?_)
   rw[← cE (key:=key) (a:=b) (i:=nb-1) (by lia),← cE (key:=key) (a:=a) (i:=na-1) (by lia)]
   by_cases aw:kk key b (nb-1)<kk key a (na-1)
   ·rw[decide_eq_true aw]
    dsimp only
    rw[if_pos rfl]
    refine wpS_bind (bQ (getElem?_pos a (na-1) (by lia)) ?_)
    have p2:=p1.pushA (show 1≤na by lia) (show na-1<a.size by lia) T.sa fun _=>by lia
    by_cases f1:(na-1==0)=true
    ·rw[if_pos f1];exact wpS_pure ⟨hB1,.inl ⟨_,_,rfl,T.doneH p2 (by lia) (by lia) (.inl (by simpa using f1))⟩⟩
    rw[if_neg f1]
    have g1:¬ (na-1=0):=by simpa using f1
    split
    ·exact wpS_pure ⟨hB1,.inr ⟨_,_,_,_,_,rfl,p2,by lia,by lia,by lia,by lia,by lia⟩⟩
    ·exact wpS_pure ⟨hB1,_,_,_,_,_,rfl,p2,by lia,by lia,by lia,by lia,by lia⟩
   ·rw[decide_eq_false aw]
    dsimp only
    rw[if_neg (by decide)]
    refine wpS_bind (bQ (getElem?_pos b (nb-1) (by lia)) ?_)
    have p2:=p1.pushB (show 1≤nb by lia) (show nb-1<b.size by lia) T.sb fun _=>by lia
    by_cases f1:(nb-1==1)=true
    ·rw[if_pos f1];exact wpS_pure ⟨hB1,.inl ⟨_,_,rfl,T.first p2 (by lia) (by simpa using f1)⟩⟩
    rw[if_neg f1]
    have g1:¬ (nb-1=1):=by simpa using f1
    split
    ·exact wpS_pure ⟨hB1,.inr ⟨_,_,_,_,_,rfl,p2,by lia,by lia,by lia,by lia,by lia⟩⟩
    ·exact wpS_pure ⟨hB1,_,_,_,_,_,rfl,p2,by lia,by lia,by lia,by lia,by lia⟩
  ·rintro c st2 ⟨hB1,na,nb,out,ac,bc,rfl,p1,la,lb,ma,mb,li⟩
   exact⟨hB1,.inr ⟨_,_,_,_,_,rfl,p1,la,lb,ma,mb,by lia⟩⟩
  ·rintro c st2 ⟨hB1,⟨r,c',rfl,hp⟩|⟨na,nb,out,ac,bc,rfl,p1,la,lb,ma,mb,li⟩⟩
   ·exact wpS_pure ⟨hB1,_,_,rfl,hp⟩
   ·dsimp only
    refine wpS_bind (wpS_lift (wpAny_rule ⟨rfl,?_⟩))
    refine wpS_bind (wpS_mono (wpS_forRange (I:=fun x c st'=>SM κ ar pd st'∧∃na nb out mg ac bc,c=(none,na,nb,out,mg,ac,bc)∧HI key a b out na nb∧1≤na∧2≤nb∧na≤a.size∧nb≤b.size∧i+1+na+nb≤a.size+b.size) (Q:=fun c st'=>SM κ ar pd st'∧((∃r c',c=(some r,c')∧Fi key a b r)∨∃na nb out mg ac bc,c=(none,na,nb,out,mg,ac,bc)∧HI key a b out na nb∧1≤na∧2≤nb∧na≤a.size∧nb≤b.size∧i+1+na+nb≤a.size+b.size)) ?_ ?_ ⟨hB1,_,_,_,_,_,_,rfl,p1,la,lb,ma,mb,li⟩) ?_)
    ·rintro x c st2 _ hx ⟨hB1,na,nb,out,mg,ac,bc,rfl,p1,la,lb,ma,mb,li⟩
     change wpS (model prog w) A E s (if mg > 1 then hiA a b na nb out (mg-1) ac bc else hiA a b na nb out mg ac bc) _ st2
     split <;>
     ·refine wpS_mono (aCX hC T hB1 p1 la lb ma mb li) ?_
      rintro r st' ⟨m,⟨x,c,rfl,hf⟩|⟨na,nb,out,mg,ac,bc,rfl|rfl,hh⟩⟩
      ·exact⟨m,.inl ⟨_,_,rfl,hf⟩⟩
      ·exact⟨m,.inr ⟨_,_,_,_,_,_,rfl,hh⟩⟩
      ·exact⟨m,_,_,_,_,_,_,rfl,hh⟩
    ·rintro c st2 ⟨hB1,hh⟩
     exact⟨hB1,.inr hh⟩
    ·rintro c st2 ⟨hB1,⟨r,c',rfl,hp⟩|⟨na,nb,out,mg,ac,bc,rfl,p1,la,lb,ma,mb,li⟩⟩
     ·exact wpS_pure ⟨hB1,_,_,rfl,hp⟩
     ·dsimp only
      rw[eG]
      refine wpS_bind (wpS_modify ?_)
      exact wpS_pure ⟨⟨hB1.arr,hB1.kind,hB1.failed,hB1.pend⟩,_,_,_,_,rfl,p1,la,lb,ma,mb,li⟩
 ·rintro c st1 ⟨hB0,na,nb,out,mg,rfl,p1,la,lb,ma,mb,li⟩
  lia
 ·rintro c st1 ⟨hB0,r,c',rfl,hp⟩
  exact wpS_pure (h r st1 hp hB0)
end
end PyProof.Rows
namespace PyProof.Rows
open PySem
abbrev Run:=Nat×Nat×Nat
def Runs(key:Keyed→Int)(a:Array Keyed):List Run→Nat→Nat→Prop
 |[],s,e=>s=e
 |r::rs,s,e=>r.1=s∧1≤r.2.1∧So key a s (s+r.2.1)∧Runs key a rs (s+r.2.1) e
section
variable {key:Keyed→Int} {a:Array Keyed}
theorem Runs.le:∀ {l:List Run} {s e:Nat},Runs key a l s e→s+l.length≤e
 |[],_,_,h=>Nat.le_of_eq h
 |r::rs,s,e,⟨_,h2,_,h3⟩=>by have:=h3.le;rw[List.length_cons];lia
theorem So.keep{a a':Array Keyed}{s e:Nat}(h:So key a s e)(k:∀i,s≤i→i<e→a'[i]?=a[i]?):So key a' s e:=fun i j h1 h2 h3=>by
 rw[eW (k i h1 (by lia)),eW (k j (by lia) h3)]
 exact h i j h1 h2 h3
theorem Runs.keep{a':Array Keyed}:∀ {l:List Run} {s e:Nat},Runs key a l s e→(∀i,s≤i→i<e→a'[i]?=a[i]?)→Runs key a' l s e
 |[],_,_,h,_=>h
 |r::rs,s,e,⟨h1,h2,h3,h4⟩,k=>by
  have:=h4.le
  exact⟨h1,h2,h3.keep fun i a b=>k i a (by lia),h4.keep fun i a b=>k i (by lia) b⟩
theorem Runs.two:∀ {l:List Run} {s e i:Nat} {x y:Run},Runs key a l s e→l[i]?=some x→l[i+1]?=some y→
  s≤x.1∧x.1+x.2.1=y.1∧y.1+y.2.1≤e∧1≤x.2.1∧1≤y.2.1∧So key a x.1 y.1∧So key a y.1 (y.1+y.2.1)∧∀p a',Out a a' x.1 (y.1+y.2.1)→So key a' x.1 (y.1+y.2.1)→Runs key a' ((l.set i (x.1,x.2.1+y.2.1,p)).eraseIdx (i+1)) s e
 |r::q::rs,s,e,0,x,y,⟨h1,h2,h3,h4,h5,h6,h7⟩,hx,hy=>by
  obtain rfl:=Option.some.inj hx
  obtain rfl:=Option.some.inj hy
  have:=h7.le
  rw[h1,h4]
  refine⟨Nat.le_refl _,rfl,by lia,h2,h5,h3,h6,fun p a' o so=>⟨rfl,by show 1≤r.2.1+q.2.1;lia,?_,?_⟩⟩
  ·show So key a' s (s+(r.2.1+q.2.1))
   rw[← Nat.add_assoc];exact so
  ·show Runs key a' rs (s+(r.2.1+q.2.1)) e
   rw[← Nat.add_assoc];exact h7.keep fun i a b=>o i (.inr a)
 |r::rs,s,e,i+1,x,y,⟨h1,h2,h3,h4⟩,hx,hy=>by
  obtain⟨a0,a1,a2,a3,a4,a5,a6,a7⟩:=Runs.two (i:=i) h4 hx hy
  exact⟨by lia,a1,a2,a3,a4,a5,a6,fun p a' o so=>⟨h1,h2,h3.keep fun i a b=>o i (.inl (by lia)),a7 p a' o so⟩⟩
theorem Runs.push:∀ {l:List Run} {s e n p:Nat},Runs key a l s e→1≤n→So key a e (e+n)→Runs key a (l++[(e,n,p)]) s (e+n)
 |[],s,e,n,p,h,hn,so=>⟨h.symm,hn,by rw[show s=e from h];exact so,by rw[show s=e from h];rfl⟩
 |r::rs,s,e,n,p,⟨h1,h2,h3,h4⟩,hn,so=>⟨h1,h2,h3,Runs.push h4 hn so⟩
theorem Runs.pw:∀ {l:List Run} {s e:Nat} (i p:Nat),Runs key a l s e→Runs key a (l.modify i fun r=>(r.1,r.2.1,p)) s e
 |[],s,e,i,p,h=>by cases i <;> exact h
 |r::rs,s,e,0,p,⟨h1,h2,h3⟩=>⟨h1,h2,h3⟩
 |r::rs,s,e,i+1,p,⟨h1,h2,h3,h4⟩=>⟨h1,h2,h3,Runs.pw i p h4⟩
end
theorem aCY{M:Model}{A:Around}{E:Value→Shared→Prop}{s:Shared}{σ:Type}{x:σ}{Q:PUnit→σ→Prop}{st:σ}(h:Q ⟨⟩ x):wpS M A E s (set x:StateT σ Sem PUnit) Q st:=by
 unfold wpS;rw[StateT.run_set];exact wpAny_pure ⟨rfl,h⟩
theorem vO(i:Nat):mergeAt' i=(do
 let s ← get
 let (some (sa,na,power),some (sb,nb,_)):=((pendingOf s)[i]?,(pendingOf s)[i+1]?)|unsupported "internal:list.sort.pending"
 set (setPending s (((pendingOf s).setIfInBounds i (sa,na+nb,power)).eraseIdxIfInBounds (i+1)))
 let some k ← dP false (← elem' (arrOf s) sb) (arrOf s) sa na 0|return false
 let (sa,na):=(sa+k,na-k)
 if na==0 then return true
 let some nb ← dP true (← elem' (arrOf s) (sa+na-1)) (arrOf s) sb nb (nb-1)|return false
 if nb==0 then return true
 let x:=(arrOf s).extract sa sb
 let y:=(arrOf s).extract sb (sb+nb)
 let merged ← if na≤nb then nE x y else nF x y
 modify fun s=>setArr s (merged.toList.zipIdx.foldl (fun a (p,j)=>a.setIfInBounds (sa+j) p) (arrOf s))
 return (failedOf (← get)).isNone):=rfl
theorem oM{sa:Nat}:∀ (l:List Keyed) (k:Nat) (arr:Array Keyed),sa+k+l.length≤arr.size→
  ((l.zipIdx k).foldl (fun (a:Array Keyed) (x:Keyed×Nat)=>a.setIfInBounds (sa+x.2) x.1) arr).toList=arr.toList.take (sa+k)++l++arr.toList.drop (sa+k+l.length)
 |[],k,arr,_=>by simp
 |x::l,k,arr,h=>by
  rw[List.length_cons] at h
  have hs:sa+k<arr.toList.length:=by rw[Array.length_toList];lia
  rw[List.zipIdx_cons,List.foldl_cons,oM l (k+1) _ (by rw[Array.size_setIfInBounds];lia),Array.toList_setIfInBounds]
  dsimp only
  have e1:(arr.toList.set (sa+k) x).take (sa+(k+1))=arr.toList.take (sa+k)++[x]:=by
   rw[← Nat.add_assoc,List.take_add_one,List.getElem?_set_self hs,List.take_set_of_le (Nat.le_refl _)]
   rfl
  have e2:(arr.toList.set (sa+k) x).drop (sa+(k+1)+l.length)=arr.toList.drop (sa+k+(x::l).length):=by
   rw[List.drop_set_of_lt (by lia),List.length_cons]
   congr 1;lia
  rw[e1,e2,List.append_assoc,List.append_assoc,List.append_assoc]
  rfl
section
variable {prog:Program} {w:World} {A:Around} {E:Value→Shared→Prop} {s:Shared} {κ:SortKind} {a₀:Array Keyed} {key:Keyed→Int}
theorem pP{a:Array Keyed}{i:Nat}:kk key a i=(a.toList[i]?.map key).getD 0:=by unfold kk;rw[Array.getElem?_toList]
theorem fA{a:Array Keyed}{i j k:Nat}(h:k<j-i):kk key (a.extract i j) k=kk key a (i+k):=by
 rw[pP,pP,eH,List.getElem?_take,if_pos h,List.getElem?_drop]
def SR(κ:SortKind)(a₀:Array Keyed)(key:Keyed→Int)(lo:Nat)(st:SortSt):Prop:=∃pd,SQ κ a₀ pd st∧Runs key (arrOf st) pd.toList 0 lo∧lo≤a₀.size
theorem aCZ{a a':Array Keyed}{out:List Keyed}{sa k sb k2 e:Nat}(h1:sa+k≤sb)(h2:sb+k2≤e)(he:e≤a.size)(hl:out.length=sb+k2-(sa+k))(wl:a'.toList=a.toList.take (sa+k)++out++a.toList.drop (sb+k2))(s1:So key a sa sb)(s2:So key a sb e)(so:out.Pairwise fun x y=>key x≤key y){b t:Int}(g1:∀i,sa≤i→i<sa+k→kk key a i≤b)(g2:∀i,sb+k2≤i→i<e→t≤kk key a i)(go:∀x∈out,b≤key x∧key x≤t)(gb:∀i,sb+k2≤i→i<e→b≤kk key a i):
  So key a' sa e∧Out a a' sa e:=by
 have tl:(a.toList.take (sa+k)).length=sa+k:=by rw[List.length_take,Array.length_toList];lia
 have p1:∀i,i<sa+k→a'[i]?=a[i]?:=fun i hi=>by
  rw[← Array.getElem?_toList,wl,List.append_assoc,List.getElem?_append_left (by rw[tl];exact hi),List.getElem?_take,if_pos hi,Array.getElem?_toList]
 have p3:∀i,sb+k2≤i→a'[i]?=a[i]?:=fun i hi=>by
  rw[← Array.getElem?_toList,wl,List.getElem?_append_right (by rw[List.length_append,tl,hl];lia),List.length_append,tl,hl,List.getElem?_drop,Array.getElem?_toList]
  congr 1;lia
 have p2:∀i,sa+k≤i→i<sb+k2→∃h:i-(sa+k)<out.length,kk key a' i=key out[i-(sa+k)]:=fun i hi hi'=>by
  have hh:i-(sa+k)<out.length:=by lia
  refine⟨hh,?_⟩
  rw[pP,wl,List.append_assoc,List.getElem?_append_right (by rw[tl];exact hi),tl,List.getElem?_append_left hh,List.getElem?_eq_getElem hh];rfl
 refine⟨fun i j hi hij hj=>?_,fun i hi=>?_⟩
 ·by_cases c1:i<sa+k
  ·rw[eW (p1 i c1)]
   by_cases c2:j<sa+k
   ·rw[eW (p1 j c2)];exact s1 i j hi hij (by lia)
   ·have:=g1 i hi c1
    by_cases c3:j<sb+k2
    ·obtain⟨hh,e⟩:=p2 j (by lia) c3
     have:=(go _ (List.getElem_mem hh)).1
     rw[e];lia
    ·rw[eW (p3 j (by lia))]
     have:=gb j (by lia) hj
     lia
  ·by_cases c2:i<sb+k2
   ·obtain⟨hh,ei⟩:=p2 i (by lia) c2
    rw[ei]
    by_cases c3:j<sb+k2
    ·obtain⟨hh',ej⟩:=p2 j (by lia) c3
     rw[ej]
     by_cases c4:i=j
     ·subst c4;exact Int.le_refl _
     ·exact List.pairwise_iff_getElem.mp so _ _ hh hh' (by lia)
    ·rw[eW (p3 j (by lia))]
     have:=(go _ (List.getElem_mem hh)).2
     have:=g2 j (by lia) hj
     lia
   ·rw[eW (p3 i (by lia)),eW (p3 j (by lia))]
    exact s2 i j (by lia) hij hj
 ·rcases hi with hi|hi
  ·exact p1 i (by lia)
  ·exact p3 i (by lia)
theorem jD{st:SortSt}{i lo:Nat}{Q:Bool→SortSt→Prop}(hC:Cmp prog w A s κ a₀ key)(hB:SR κ a₀ key lo st)(hi:i+1<(pendingOf st).size)(h:∀st',SR κ a₀ key lo st'→Out (arrOf st) (arrOf st') 0 lo→(pendingOf st').size+1=(pendingOf st).size→Q true st'):wpS (model prog w) A E s (mergeAt' i) Q st:=by
 obtain⟨pd,hq,hr,hlo⟩:=hB
 rw[hq.pend] at hi h
 rw[vO]
 refine wpS_bind (wpS_get ?_)
 have e1:pd[i]?=some pd[i]:=getElem?_pos pd i (by lia)
 have e2:pd[i+1]?=some pd[i+1]:=getElem?_pos pd (i+1) hi
 obtain⟨_,a1,a2,a3,a4,b1,b2,a5⟩:=hr.two (i:=i) (x:=pd[i]) (y:=pd[i+1]) (by simpa using e1) (by simpa using e2)
 rw[hq.pend,e1,e2]
 revert a1 a2 a3 a4 a5 b1 b2
 generalize pd[i]=x
 generalize pd[i+1]=y
 obtain⟨sa,na,pw⟩:=x
 obtain⟨sb,nb,pw2⟩:=y
 intro a1 a2 a3 a4 b1 b2 a5
 dsimp only at a1 a2 a3 a4 a5 b1 b2 ⊢
 obtain⟨pd',hpd'⟩:∃pd',pd'=(pd.setIfInBounds i (sa,na+nb,pw)).eraseIdxIfInBounds (i+1):=⟨_,rfl⟩
 have hps:pd'.size+1=pd.size:=by
  rw[hpd',← Array.length_toList,Array.toList_eraseIdxIfInBounds,Array.toList_setIfInBounds,List.length_eraseIdx,List.length_set,if_pos (by simpa using hi),Array.length_toList]
  lia
 have hr':∀a',Out (arrOf st) a' sa (sb+nb)→So key a' sa (sb+nb)→Runs key a' pd'.toList 0 lo:=by
  intro a' o so
  rw[hpd',Array.toList_eraseIdxIfInBounds,Array.toList_setIfInBounds]
  exact a5 pw a' o so
 refine wpS_bind (aCY ?_)
 rw[← hpd']
 have hq1:SM κ (arrOf st) pd' (setPending st pd'):=⟨rfl,hq.kind,hq.failed,rfl⟩
 have hsz:=hq.size
 have hin:∀x∈(arrOf st).toList,x∈a₀.toList:=fun x hx=>(Array.perm_iff_toList_perm.mp hq.perm).mem_iff.mp hx
 have fin:∀st',SM κ (arrOf st) pd' st'→So key (arrOf st) sa (sb+nb)→Q true st':=fun st' m so=>h st' ⟨pd',⟨by rw[m.arr];exact hq.perm,m.kind,m.failed,m.pend⟩,by rw[m.arr];exact hr' _ Out.refl so,hlo⟩ (by rw[m.arr];exact Out.refl) (by rw[m.pend];exact hps)
 refine wpS_bind (bQ (getElem?_pos (arrOf st) sb (by lia)) ?_)
 refine wpS_bind (eY hC hq1.kind (hin _ (by simp)) hin (by lia) (by lia) (by rw[a1];exact b1) fun k hk q1 q2=>?_)
 rw[← cE (key:=key) (a:=arrOf st) (i:=sb) (by lia)] at q1 q2
 simp only[thr,Bool.false_eq_true,if_false] at q1 q2
 dsimp only
 by_cases f1:(na-k==0)=true
 ·rw[if_pos f1]
  have g1:na-k=0:=by simpa using f1
  refine wpS_pure (fin _ hq1 fun i j h1 h2 h3=>?_)
  by_cases c1:j<sb
  ·exact b1 i j h1 h2 c1
  ·by_cases c2:i<sb
   ·have:=q1 (i-sa) (by lia)
    rw[show sa+(i-sa)=i by lia] at this
    have:=b2 sb j (by lia) (by lia) h3
    lia
   ·exact b2 i j (by lia) h2 h3
 rw[if_neg f1]
 have g1:¬ (na-k=0):=by simpa using f1
 have el:sa+k+(na-k)-1=sb-1:=by lia
 rw[el]
 refine wpS_bind (bQ (getElem?_pos (arrOf st) (sb-1) (by lia)) ?_)
 refine wpS_bind (eY hC hq1.kind (hin _ (by simp)) hin (by lia) (by lia) b2 fun k2 hk2 q3 q4=>?_)
 rw[← cE (key:=key) (a:=arrOf st) (i:=sb-1) (by lia)] at q3 q4
 simp only[thr,if_true] at q3 q4
 dsimp only
 by_cases f2:(k2==0)=true
 ·rw[if_pos f2]
  have g2:k2=0:=by simpa using f2
  refine wpS_pure (fin _ hq1 fun i j h1 h2 h3=>?_)
  by_cases c1:j<sb
  ·exact b1 i j h1 h2 c1
  ·by_cases c2:i<sb
   ·have:=q4 (j-sb) (by lia) (by lia)
    rw[show sb+(j-sb)=j by lia] at this
    have:=b1 i (sb-1) h1 (by lia) (by lia)
    lia
   ·exact b2 i j (by lia) h2 h3
 rw[if_neg f2]
 have g2:¬ (k2=0):=by simpa using f2
 have sx:((arrOf st).extract (sa+k) sb).size=sb-(sa+k):=by rw[Array.size_extract];lia
 have sy:((arrOf st).extract sb (sb+k2)).size=k2:=by rw[Array.size_extract];lia
 have T:Two key a₀ ((arrOf st).extract (sa+k) sb) ((arrOf st).extract sb (sb+k2)):=by
  refine⟨fun x hx=>hin x (by rw[eH] at hx;exact List.mem_of_mem_drop (List.mem_of_mem_take hx)),fun x hx=>hin x (by rw[eH] at hx;exact List.mem_of_mem_drop (List.mem_of_mem_take hx)),by lia,by lia,fun i j h1 h2 h3=>?_,fun i j h1 h2 h3=>?_,?_,fun i hi=>?_⟩
  ·rw[sx] at h3
   rw[fA (by lia),fA (by lia)]
   exact b1 _ _ (by lia) (by lia) (by lia)
  ·rw[sy] at h3
   rw[fA (by lia),fA (by lia)]
   exact b2 _ _ (by lia) (by lia) (by lia)
  ·rw[fA (by lia),fA (by lia)]
   have:=q2 k (by lia) (by lia)
   rw[Nat.add_zero,Nat.add_zero]
   lia
  ·rw[sy] at hi
   rw[sx,fA (by lia),fA (by lia)]
   have:=q3 i hi
   rw[show sa+k+(sb-(sa+k)-1)=sb-1 by lia]
   lia
 have last:∀ (out:Array Keyed) (st':SortSt),Fi key ((arrOf st).extract (sa+k) sb) ((arrOf st).extract sb (sb+k2)) out→SM κ (arrOf st) pd' st'→wpS (model prog w) A E s (do
   modify fun s=>setArr s (out.toList.zipIdx.foldl (fun a (p,j)=>a.setIfInBounds (sa+k+j) p) (arrOf s))
   return (failedOf (← get)).isNone) Q st':=by
  intro out st' hF m
  obtain⟨hp,so⟩:=hF
  refine wpS_bind (wpS_modify ?_)
  refine wpS_bind (wpS_get (wpS_pure ?_))
  have osz:out.toList.length=sb-(sa+k)+k2:=by
   rw[Array.length_toList,hp.size_eq,Array.size_append,sx,sy]
  have wl:=oM (sa:=sa+k) out.toList 0 (arrOf st') (by rw[m.arr,osz];lia)
  have e3:sa+k+(sb-(sa+k)+k2)=sb+k2:=by lia
  rw[m.arr,osz,Nat.add_zero,e3] at wl
  have hp':=Array.perm_iff_toList_perm.mp hp
  rw[Array.toList_append] at hp'
  have pm:(out.toList.zipIdx.foldl (fun a (p,j)=>a.setIfInBounds (sa+k+j) p) (arrOf st)).Perm (arrOf st):=by
   rw[Array.perm_iff_toList_perm]
   refine(List.Perm.of_eq wl).trans ?_
   rw[eH,eH] at hp'
   refine((hp'.append_left _).append_right _).trans ?_
   have e1:(arrOf st).toList.drop (sa+k)=((arrOf st).toList.drop (sa+k)).take (sb-(sa+k))++(arrOf st).toList.drop sb:=tI (by lia)
   have e2:(arrOf st).toList.drop sb=((arrOf st).toList.drop sb).take (sb+k2-sb)++(arrOf st).toList.drop (sb+k2):=tI (by lia)
   refine List.Perm.of_eq ?_
   conv=>rhs;rw[← List.take_append_drop (sa+k) (arrOf st).toList,e1,e2]
   simp only[List.append_assoc]
  have hf:(failedOf st').isNone=true:=by rw[m.failed];rfl
  show Q (failedOf st').isNone _
  rw[hf]
  have go:∀x∈out.toList,kk key (arrOf st) sb≤key x∧key x≤kk key (arrOf st) (sb-1):=by
   intro x hx
   rcases List.mem_append.mp (hp'.mem_iff.mp hx) with z|z
   ·obtain⟨n,hn,rfl⟩:=List.mem_iff_getElem.mp z
    rw[Array.length_toList] at hn
    have e:key (((arrOf st).extract (sa+k) sb).toList[n]'(by rw[Array.length_toList];exact hn))=kk key (arrOf st) (sa+k+n):=by
     rw[← fA (i:=sa+k) (j:=sb) (by lia),cE hn,Array.getElem_toList]
    rw[e]
    have h1:=q2 (k+n) (by lia) (by lia)
    rw[← Nat.add_assoc] at h1
    have h2:=b1 (sa+k+n) (sb-1) (by lia) (by lia) (by lia)
    lia
   ·obtain⟨n,hn,rfl⟩:=List.mem_iff_getElem.mp z
    rw[Array.length_toList] at hn
    have e:key (((arrOf st).extract sb (sb+k2)).toList[n]'(by rw[Array.length_toList];exact hn))=kk key (arrOf st) (sb+n):=by
     rw[← fA (i:=sb) (j:=sb+k2) (by lia),cE hn,Array.getElem_toList]
    rw[e]
    have h1:=q3 n (by lia)
    have h2:=b2 sb (sb+n) (by lia) (by lia) (by lia)
    lia
  have bk:=aCZ (key:=key) (a:=arrOf st) (a':=out.toList.zipIdx.foldl (fun a (p,j)=>a.setIfInBounds (sa+k+j) p) (arrOf st)) (out:=out.toList) (sa:=sa) (k:=k) (sb:=sb) (k2:=k2) (e:=sb+nb) (by lia) (by lia) (by lia) (by lia) wl b1 b2 so (b:=kk key (arrOf st) sb) (t:=kk key (arrOf st) (sb-1))
   (fun i h1 h2=>by have:=q1 (i-sa) (by lia);rw[show sa+(i-sa)=i by lia] at this;lia) (fun i h1 h2=>by have:=q4 (i-sb) (by lia) (by lia);rw[show sb+(i-sb)=i by lia] at this;lia) go (fun i h1 h2=>b2 sb i (by lia) (by lia) h2)
  have ea:arrOf (setArr st' (out.toList.zipIdx.foldl (fun a (p,j)=>a.setIfInBounds (sa+k+j) p) (arrOf st')))=out.toList.zipIdx.foldl (fun a (p,j)=>a.setIfInBounds (sa+k+j) p) (arrOf st):=by rw[m.arr]
  refine h _ ⟨pd',⟨by rw[ea];exact pm.trans hq.perm,m.kind,m.failed,m.pend⟩,by rw[ea];exact hr' _ bk.2 bk.1,hlo⟩ (by rw[ea];exact bk.2.wide (by lia) (by lia)) (by show (pendingOf st').size+1=_;rw[m.pend];exact hps)
 by_cases f3:na-k≤k2
 ·rw[if_pos f3]
  exact wpS_bind (vL hC hq1 T fun out st' hp m=>last out st' hp m)
 ·rw[if_neg f3]
  exact wpS_bind (vN hC hq1 T fun out st' hp m=>last out st' hp m)
end
end PyProof.Rows
namespace PyProof.Rows
open PySem
section
variable {prog:Program} {w:World} {A:Around} {E:Value→Shared→Prop} {s:Shared} {κ:SortKind} {a₀:Array Keyed} {key:Keyed→Int}
theorem vP{c:Prop}[Decidable c]{x:Nat}:(if c then x-1 else x)≤x:=by split <;> lia
theorem SR.pw{lo:Nat}{st:SortSt}(h:SR κ a₀ key lo st)(i p:Nat):SR κ a₀ key lo (setPending st ((pendingOf st).modify i fun r=>(r.1,r.2.1,p))):=by
 obtain⟨pd,hq,hr,hl⟩:=h
 refine⟨_,⟨hq.perm,hq.kind,hq.failed,rfl⟩,?_,hl⟩
 show Runs key (arrOf st) ((pendingOf st).modify i fun r=>(r.1,r.2.1,p)).toList 0 lo
 rw[hq.pend,Array.toList_modify]
 exact hr.pw i p
theorem SR.push{lo n:Nat}{st:SortSt}(h:SR κ a₀ key lo st)(h1:1≤n)(hn:lo+n≤a₀.size)(so:So key (arrOf st) lo (lo+n)):SR κ a₀ key (lo+n) (setPending st ((pendingOf st).push (lo,n,0))):=by
 obtain⟨pd,hq,hr,hl⟩:=h
 refine⟨_,⟨hq.perm,hq.kind,hq.failed,rfl⟩,?_,hn⟩
 show Runs key (arrOf st) ((pendingOf st).push (lo,n,0)).toList 0 (lo+n)
 rw[hq.pend,Array.toList_push]
 exact hr.push h1 so
theorem aAS{st:SortSt}{Q:Unit→SortSt→Prop}(hC:Cmp prog w A s κ a₀ key)(hp:(arrOf st).Perm a₀)(hk:kindOf st=κ)(hf:failedOf st=none)(hpd:pendingOf st=#[])(h:∀st',(arrOf st').Perm a₀→failedOf st'=none→So key (arrOf st') 0 a₀.size→Q () st'):wpS (model prog w) A E s sortRuns' Q st:=by
 have h0:SR κ a₀ key 0 st:=⟨#[],⟨hp,hk,hf,hpd⟩,rfl,Nat.zero_le _⟩
 have hsz:(arrOf st).size=a₀.size:=hp.size_eq
 rw[sortRuns'_eq]
 refine wpS_bind (wpS_get ?_)
 dsimp only
 rw[hsz]
 refine wpS_bind (wpS_mono (wpS_forRange (I:=fun i c st'=>∃lo,c=(none,lo)∧SR κ a₀ key lo st'∧i≤lo) (Q:=fun c st'=>∃lo,c=(none,lo)∧SR κ a₀ key lo st'∧a₀.size≤lo) ?_ (fun c st' ⟨lo,a,b,c⟩=>⟨lo,a,b,by lia⟩) ⟨0,rfl,h0,by lia⟩) ?_)
 ·rintro i c st1 _ _ ⟨lo,rfl,hR,hil⟩
  by_cases e1:lo≥a₀.size
  ·dsimp only
   rw[if_pos e1];exact wpS_pure ⟨lo,rfl,hR,e1⟩
  have hlo:lo<a₀.size:=by lia
  obtain⟨pd,hq,hr,hl⟩:=hR
  dsimp only
  rw[if_neg e1]
  refine wpS_bind (aAR hC (by lia) (by lia) hq fun n st2 hq2 n1 n2 so ou=>?_)
  have hr2:Runs key (arrOf st2) pd.toList 0 lo:=hr.keep fun i _ h2=>ou i (.inl h2)
  dsimp only
  by_cases hm:n<minRun' a₀.size a₀.size 0
  ·rw[if_pos hm]
   refine wpS_bind (wpS_lift (wpAny_rule ⟨rfl,?_⟩))
   refine wpS_bind (aCU hC (by lia) (by lia) hq2 so fun st3 hq3 so3 ou3=>?_)
   simp only[Bool.not_true,Bool.false_eq_true,if_false]
   have hR3:SR κ a₀ key lo st3:=⟨pd,hq3,hr2.keep fun i _ h2=>ou3 i (.inl h2),hl⟩
   refine wpS_bind (wpS_get ?_)
   cases hb:(pendingOf st3).back? with
   |none=>
    dsimp only
    exact wpS_bind (wpS_modify (wpS_pure ⟨_,rfl,SR.push hR3 (by lia) (by lia) so3,by lia⟩))
   |some r=>
    obtain⟨s1,n1',pw1⟩:=r
    dsimp only
    refine wpS_bind (wpS_mono (wpS_forRange (I:=fun _ c st'=>c=(none,())∧SR κ a₀ key lo st'∧So key (arrOf st') lo (lo+min (a₀.size-lo) (minRun' a₀.size a₀.size 0))) (Q:=fun c st'=>c=(none,())∧SR κ a₀ key lo st'∧So key (arrOf st') lo (lo+min (a₀.size-lo) (minRun' a₀.size a₀.size 0))) ?_ (fun c st' hh=>hh) ⟨rfl,hR3,so3⟩) ?_)
    ·rintro x c st4 _ _ ⟨rfl,hR4,so4⟩
     refine wpS_bind (wpS_get ?_)
     by_cases hs:(pendingOf st4).size > 1
     ·rw[if_pos hs,getElem?_pos (pendingOf st4) ((pendingOf st4).size-2) (by lia)]
      generalize (pendingOf st4)[(pendingOf st4).size-2]=r4
      obtain⟨_,_,older⟩:=r4
      dsimp only
      split
      ·exact wpS_pure ⟨rfl,hR4,so4⟩
      ·refine wpS_bind (jD hC hR4 (by lia) fun st5 hR5 ou _=>?_)
       simp only[Bool.not_true,Bool.false_eq_true,if_false]
       exact wpS_pure ⟨rfl,hR5,so4.keep fun i h1 _=>ou i (.inr h1)⟩
     ·rw[if_neg hs];exact wpS_pure ⟨rfl,hR4,so4⟩
    ·rintro c st4 ⟨rfl,hR4,so4⟩
     dsimp only
     exact wpS_bind (wpS_modify (wpS_bind (wpS_modify (wpS_pure ⟨_,rfl,(hR4.pw _ _).push (by lia) (by lia) so4,by lia⟩))))
  ·rw[if_neg hm]
   have hR3:SR κ a₀ key lo st2:=⟨pd,hq2,hr2,hl⟩
   refine wpS_bind (wpS_get ?_)
   cases hb:(pendingOf st2).back? with
   |none=>
    dsimp only
    exact wpS_bind (wpS_modify (wpS_pure ⟨_,rfl,SR.push hR3 n1 (by lia) so,by lia⟩))
   |some r=>
    obtain⟨s1,n1',pw1⟩:=r
    dsimp only
    refine wpS_bind (wpS_mono (wpS_forRange (I:=fun _ c st'=>c=(none,())∧SR κ a₀ key lo st'∧So key (arrOf st') lo (lo+n)) (Q:=fun c st'=>c=(none,())∧SR κ a₀ key lo st'∧So key (arrOf st') lo (lo+n)) ?_ (fun c st' hh=>hh) ⟨rfl,hR3,so⟩) ?_)
    ·rintro x c st4 _ _ ⟨rfl,hR4,so4⟩
     refine wpS_bind (wpS_get ?_)
     by_cases hs:(pendingOf st4).size > 1
     ·rw[if_pos hs,getElem?_pos (pendingOf st4) ((pendingOf st4).size-2) (by lia)]
      generalize (pendingOf st4)[(pendingOf st4).size-2]=r4
      obtain⟨_,_,older⟩:=r4
      dsimp only
      split
      ·exact wpS_pure ⟨rfl,hR4,so4⟩
      ·refine wpS_bind (jD hC hR4 (by lia) fun st5 hR5 ou _=>?_)
       simp only[Bool.not_true,Bool.false_eq_true,if_false]
       exact wpS_pure ⟨rfl,hR5,so4.keep fun i h1 _=>ou i (.inr h1)⟩
     ·rw[if_neg hs];exact wpS_pure ⟨rfl,hR4,so4⟩
    ·rintro c st4 ⟨rfl,hR4,so4⟩
     dsimp only
     exact wpS_bind (wpS_modify (wpS_bind (wpS_modify (wpS_pure ⟨_,rfl,(hR4.pw _ _).push n1 (by lia) so4,by lia⟩))))
 ·rintro c st1 ⟨lo,rfl,hR,hlo⟩
  dsimp only
  refine wpS_bind (wpS_mono (wpS_forRange (I:=fun i c st'=>c=(none,())∧SR κ a₀ key lo st'∧(pendingOf st').size≤max 1 (a₀.size-i)) (Q:=fun c st'=>c=(none,())∧SR κ a₀ key lo st'∧(pendingOf st').size≤1) ?_ ?_ ⟨rfl,hR,?_⟩) ?_)
  ·rintro x c st4 _ _ ⟨rfl,hR4,hz⟩
   refine wpS_bind (wpS_get ?_)
   by_cases hs:(pendingOf st4).size≤1
   ·rw[if_pos hs];exact wpS_pure ⟨rfl,hR4,hs⟩
   rw[if_neg hs]
   refine wpS_bind (jD hC hR4 ?_ fun st5 hR5 _ hz5=>?_)
   ·exact Nat.lt_of_le_of_lt (Nat.succ_le_succ vP) (show (pendingOf st4).size-2+1<(pendingOf st4).size by lia)
   ·simp only[Bool.not_true,Bool.false_eq_true,if_false]
    exact wpS_pure ⟨rfl,hR5,by lia⟩
  ·rintro c st4 ⟨rfl,hR4,hz⟩
   exact⟨rfl,hR4,by lia⟩
  ·obtain⟨pd,hq,hr,hl⟩:=hR
   have:=hr.le
   rw[hq.pend]
   simp at this
   lia
  ·rintro c st4 ⟨rfl,⟨pd,hq,hr,hl⟩,hz⟩
   refine wpS_pure (h _ hq.perm hq.failed ?_)
   rw[hq.pend] at hz
   have hz':pd.toList.length≤1:=by simpa using hz
   have e:lo=a₀.size:=by lia
   subst e
   revert hz'
   revert hr
   cases pd.toList with
   |nil=>intro hr _ i j _ _ hj;have:0=a₀.size:=hr;lia
   |cons r rs=>
    cases rs with
    |nil=>intro hr _;obtain⟨_,_,so,e⟩:=hr;have e:0+r.2.1=a₀.size:=e;rw[← e];exact so
    |cons r2 rs=>intro _ hz;simp at hz
end
end PyProof.Rows
namespace L2
open PySem PySem.Spec PyProof.Rows PySem.W
def gC(h:Heap)(g:Addr→Int×Int)(vs:List Value):Prop:=∀v∈vs,∃a o n t u,v=Value.ref a∧h.get? a=some o∧o.cls=.type "tuple"∧o.data=.seq #[.int (g a).1 t,.int (g a).2 u] n∧0≤(g a).2∧(g a).2<64
def pk(u:Int×Int):Int:=64*u.1+u.2
def kv(g:Addr→Int×Int)(v:Value):Int:=match v with
 |.ref a=>pk (g a)
 |_=>0
theorem gC.tups{h:Heap}{g:Addr→Int×Int}:∀ {vs:List Value},gC h g vs→∃fs,KatTups h vs fs∧fs.length=vs.length∧∀v∈fs,∃n t,v=Value.int n t
 |[],_=>⟨[],trivial,rfl,fun v hv=>nomatch hv⟩
 |v::vs,hp=>by
  obtain⟨fs,k1,k2,k3⟩:=gC.tups (vs:=vs) fun b hb=>hp b (List.mem_cons_of_mem _ hb)
  obtain⟨a,o,n,t,u,rfl,e,c,d,_⟩:=hp v List.mem_cons_self
  refine⟨.int (g a).1 t::fs,KatTups.cons e c d rfl k1,by simp[k2],fun v hv=>?_⟩
  rcases List.mem_cons.mp hv with z|z
  ·exact⟨_,t,z⟩
  ·exact k3 v z
section
variable {prog:Program} {w:World} {A:Around} {E:Value→Shared→Prop} {s:Shared} {g:Addr→Int×Int}
theorem aAT{vs:List Value}(hp:gC s.heap g vs):Cmp prog w A s (tuples' true) (vs.toArray.zip vs.toArray) (fun x=>kv g x.1):=by
 have mem:∀x∈(vs.toArray.zip vs.toArray).toList,x.1∈vs:=by
  intro x hx
  rw[Array.toList_zip] at hx
  exact(List.of_mem_zip hx).1
 intro x y hx hy Q E' q
 obtain⟨a,o,n,t1,t2,e1,eo,_,ed,a1,a2⟩:=hp x.1 (mem x hx)
 obtain⟨b,o',n',u1,u2,e2,eo',_,ed',b1,b2⟩:=hp y.1 (mem y hy)
 replace q:∀c,c=decide (kv g x.1<kv g y.1)→Q c s:=fun c e=>e ▸ q
 rw[e1,e2] at q
 rw[e1,e2]
 replace q:∀c,c=decide (64*(g a).1+(g a).2<64*(g b).1+(g b).2)→Q c s:=q
 generalize (g a).1=x1 at *
 generalize (g a).2=x2 at *
 generalize (g b).1=y1 at *
 generalize (g b).2=y2 at *
 refine kat_lt eo ed eo' ed' (kat_cons (wpAny_eqBool_int ?_))
 by_cases h1:x1=y1
 ·rw[beq_iff_eq.mpr h1]
  refine kat_yes (kat_cons (wpAny_eqBool_int ?_))
  by_cases h2:x2=y2
  ·rw[beq_iff_eq.mpr h2]
   exact kat_yes (kat_nil (q _ (by
    have e:decide (64*x1+x2<64*y1+y2)=false:=decide_eq_false (by lia)
    rw[e];rfl)))
  ·rw[beq_eq_false_iff_ne.mpr h2]
   exact kat_no (kat_one _ _ (lt_int (q _ (by congr 1;rw[eq_iff_iff];lia))))
 ·rw[beq_eq_false_iff_ne.mpr h1]
  exact kat_no (oneLt_int (q _ (by congr 1;rw[eq_iff_iff];lia)))
theorem aC0{vs:List Value}:((vs.toArray.zip vs.toArray).map (·.2)).toList=vs:=by
 rw[Array.toList_map,Array.toList_zip]
 show (vs.zip vs).map (·.2)=vs
 rw[← List.unzip_snd,List.unzip_zip_right (Nat.le_refl _)]
theorem tJ:∀ {l:List Value} {p:Value×Value},p∈l.zip l→p.2=p.1
 |x::l,p,h=>by
  rw[List.zip_cons_cons] at h
  rcases List.mem_cons.mp h with z|z
  ·rw[z]
  ·exact tJ z
theorem oN{a:Addr}{vs:List Value}{n:Nat}{P:PySem.Fin→Shared→Prop}(ho:s.heap.get? a=some (seqObj "list" vs.toArray n))(hp:gC s.heap g vs)(hz:vs.length≤4096)(h:∀ (out:Array Value),out.toList.Perm vs→out.toList.Pairwise (fun u v=>kv g u≤kv g v)→P (.done (.ret .none)) { s with heap:=sortedHeap s.heap a vs out }):
  wpAny (model prog w) A (Builtin.«list.sort» ⟨[.ref a],[]⟩) P E s:=by
 rw[list_sort_plain]
 have ha:a<s.heap.objs.size:=Heap.lt_size ho
 have hsl:vs.toArray.size≤sizeLine:=by rw[List.size_toArray,sizeLine_eq];lia
 refine wpAny_bind (listItems_at ho rfl ?_)
 refine wpAny_bind (listUpdate_at ho rfl ?_ hsl (Nat.zero_le _))
 obtain⟨e1,ho1⟩:∃e1,(s.heap.update a (Obj.mapSeq fun _=>#[])).get? a=some (seqObj "list" #[] e1):=⟨_,get?_update_seq ho (fun _=>#[])⟩
 refine wpAny_bind (seqEpoch_at ho1 rfl ?_)
 refine wpAny_bind (wpAny_newTuple ?_ (by show vs.length≤_;rw[sizeLine_eq];lia))
 refine wpAny_bind (wpAny_newList ?_ (Nat.zero_le _))
 refine wpAny_holding ?_
 have ho6:(((s.heap.update a (Obj.mapSeq fun _=>#[])).push (seqObj "tuple" vs.toArray 0)).push (seqObj "list" #[] 0)).get? a=some (seqObj "list" #[] e1):=by
  rw[Heap.get?_push_ne _ _ _ (by rw[size_push',Heap.size_update];exact Nat.ne_of_lt (Nat.lt_succ_of_lt ha)),Heap.get?_push_ne _ _ _ (by rw[Heap.size_update];exact Nat.ne_of_lt ha)]
  exact ho1
 have hp6:gC (((s.heap.update a (Obj.mapSeq fun _=>#[])).push (seqObj "tuple" vs.toArray 0)).push (seqObj "list" #[] 0)) g vs:=by
  intro v hv
  obtain⟨b,o,n,t,u,ev,e,c,d⟩:=hp v hv
  have hb:b<s.heap.objs.size:=Heap.lt_size e
  have hne:b≠a:=by
   rintro rfl
   rw[ho] at e;cases e
   exact absurd (Value.type.inj c) (by decide)
  refine⟨b,o,n,t,u,ev,?_,c,d⟩
  rw[Heap.get?_push_ne _ _ _ (by rw[size_push',Heap.size_update];exact Nat.ne_of_lt (Nat.lt_succ_of_lt hb)),Heap.get?_push_ne _ _ _ (by rw[Heap.size_update];exact Nat.ne_of_lt hb),Heap.get?_update_ne _ _ _ _ hne]
  exact e
 show wpAny (model prog w) A _ P E { s with heap:=((s.heap.update a (Obj.mapSeq fun _=>#[])).push (seqObj "tuple" vs.toArray 0)).push (seqObj "list" #[] 0) }
 dsimp only
 have fin:∀st':SortSt,(arrOf st').Perm (vs.toArray.zip vs.toArray)→So (fun x=>kv g x.1) (arrOf st') 0 (arrOf st').size→P (.done (.ret .none)) { s with heap:=sortedHeap s.heap a vs ((arrOf st').map (·.2)) }:=by
  intro st' hpm so
  refine h _ ?_ ?_
  ·have:=(Array.perm_iff_toList_perm.mp hpm).map (·.2)
   rw[← Array.toList_map,← Array.toList_map,aC0] at this
   exact this
  ·have same:∀p∈(arrOf st').toList,p.2=p.1:=by
    intro p hp
    have:=(Array.perm_iff_toList_perm.mp hpm).mem_iff.mp hp
    rw[Array.toList_zip] at this
    exact tJ this
   rw[Array.toList_map,List.pairwise_map]
   refine List.pairwise_iff_getElem.mpr fun i j hi hj hij=>?_
   rw[same _ (List.getElem_mem hi),same _ (List.getElem_mem hj)]
   have:=so i j (by lia) (by lia) (by simpa using hj)
   rw[cE (by simpa using hi),cE (by simpa using hj)] at this
   simpa using this
 have zsz:(vs.toArray.zip vs.toArray).size=vs.length:=by simp
 by_cases h2:vs.toArray.size<2
 ·rw[if_pos h2,if_pos h2]
  refine wpAny_bind (wpAny_pure ?_)
  rw[StateT.run_pure]
  refine wpAny_bind (wpAny_pure ?_)
  dsimp only
  refine wpAny_bind (seqEpoch_at ho6 rfl ?_)
  refine wpAny_bind (listUpdate_at ho6 rfl ?_ (Nat.zero_le _) (by show ((vs.toArray.zip vs.toArray).map (·.2)).size≤_;rw[Array.size_map,zsz,sizeLine_eq];lia))
  simp only[bne_self_eq_false,Bool.false_eq_true,if_false]
  exact wpAny_pure (fin (SortSt.mk' general' (vs.toArray.zip vs.toArray) #[] 7 none) (Array.Perm.refl _) fun i j _ h3 h4=>by
   have h4:j<(vs.toArray.zip vs.toArray).size:=h4
   rw[zsz] at h4
   rw[List.size_toArray] at h2
   rw[show i=j by lia]
   exact Int.le_refl _)
 ·rw[if_neg h2,if_neg h2]
  have hlen:2≤vs.length:=by rw[List.size_toArray] at h2;lia
  obtain⟨fs,k1,k2,k3⟩:=hp6.tups
  refine wpAny_bind (kat_kind (T:=.type "int") k1 (by lia) (fun v hv=>?_) rfl ?_)
  ·obtain⟨m,t,rfl⟩:=k3 v hv
   exact .now
  refine wpAny_bind (wpAny_mono (aAS (a₀:=vs.toArray.zip vs.toArray) (κ:=tuples' true) (st:=SortSt.mk' (tuples' true) (vs.toArray.zip vs.toArray) #[] 7 none)
   (Q:=fun _ st'=>(arrOf st').Perm (vs.toArray.zip vs.toArray)∧failedOf st'=none∧So (fun x=>kv g x.1) (arrOf st') 0 (vs.toArray.zip vs.toArray).size) (aAT hp6) (Array.Perm.refl _) rfl rfl rfl fun st' b1 b2 b3=>⟨b1,b2,b3⟩) ?_ fun _ _ e=>e)
  rintro⟨⟨⟩,st'⟩ s' ⟨rfl,hpm,hf,so⟩
  dsimp only
  refine wpAny_bind (seqEpoch_at ho6 rfl ?_)
  refine wpAny_bind (listUpdate_at ho6 rfl ?_ (Nat.zero_le _) (by refine Nat.le_trans (Nat.le_of_eq ((Array.size_map ..).trans (hpm.size_eq.trans zsz))) ?_;rw[sizeLine_eq];lia))
  rw[hf]
  simp only[bne_self_eq_false,Bool.false_eq_true,if_false]
  exact wpAny_pure (fin st' hpm (by rw[hpm.size_eq];exact so))
theorem tK{l:Addr}{vs:List Value}{Q:Value→Shared→Prop}(hl:s.heap.IsList l vs.toArray)(hp:gC s.heap g vs)(hz:vs.length≤4096)(h:∀ (out:Array Value),out.toList.Perm vs→out.toList.Pairwise (fun u v=>kv g u≤kv g v)→Q (.ref (s.heap.objs.size+1)) { s with heap:=sortedAll s.heap vs out }):
  wpAny (model prog w) A (call (.builtin "sorted") [.ref l]) Q E s:=by
 have hsl:vs.length≤sizeLine:=by rw[sizeLine_eq];lia
 refine Calls.call_function_entry kind_sorted plain_sorted entry_sorted (args_sorted1 _) ?_
 unfold Builtin.«sorted»
 refine wpAny_bind (m:=checkCount "sorted" 1 1 _) (wpAny_pure ?_)
 refine wpAny_bind (collect_list hl ?_ hsl)
 refine wpAny_bind (wpAny_newList ?_ hsl)
 have hsz:((s.heap.push (seqObj "list" #[] 0)).update s.heap.objs.size (Obj.mapSeq (·++vs.toArray))).objs.size=s.heap.objs.size+1:=by
  rw[Heap.size_update,size_push']
 have hoL:(((s.heap.push (seqObj "list" #[] 0)).update s.heap.objs.size (Obj.mapSeq (·++vs.toArray))).push (seqObj "list" vs.toArray 0)).get? (s.heap.objs.size+1)=some (seqObj "list" vs.toArray 0):=by
  rw[← hsz];exact Heap.get?_push_size _ rfl
 have hp2:gC (((s.heap.push (seqObj "list" #[] 0)).update s.heap.objs.size (Obj.mapSeq (·++vs.toArray))).push (seqObj "list" vs.toArray 0)) g vs:=by
  intro v hv
  obtain⟨b,o,n,t,u,ev,e,c,d⟩:=hp v hv
  have hb:b<s.heap.objs.size:=Heap.lt_size e
  refine⟨b,o,n,t,u,ev,?_,c,d⟩
  rw[Heap.get?_push_ne _ _ _ (by rw[hsz];exact Nat.ne_of_lt (Nat.lt_succ_of_lt hb)),Heap.get?_update_ne _ _ _ _ (Nat.ne_of_lt hb),Heap.get?_push_ne _ _ _ (Nat.ne_of_lt hb)]
  exact e
 show wpAny _ _ _ _ _ { s with heap:=((s.heap.push (seqObj "list" #[] 0)).update s.heap.objs.size (Obj.mapSeq (·++vs.toArray))).push (seqObj "list" vs.toArray 0) }
 rw[hsz]
 refine wpAny_bind (wpAny_holding (wpAny_call_entry slot_list_sort ⟨_,hoL,rfl⟩ entry_list_sort (oN hoL hp2 hz fun out a1 a2=>⟨_,rfl,?_⟩) (args_list_sort _)))
 exact wpAny_pure ⟨_,rfl,h out a1 a2⟩
end
theorem nG:∀ {as:List Addr} {its:List Value},Vals (as.map V.ref) its→its=as.map Value.ref
 |[],_,r=>by cases r;rfl
 |a::as,_,r=>by
  cases r with
  |cons r rr=>
   obtain rfl:=(show _=Value.ref a from r)
   rw[nG rr];rfl
theorem rB:∀ {as:List Addr},Vals (as.map V.ref) (as.map Value.ref)
 |[]=>.nil
 |_::_=>.cons rfl rB
theorem aAU{as:List Addr}{vs:List Value}(h:vs.Perm (as.map Value.ref)):∃as':List Addr,vs=as'.map Value.ref∧as'.Perm as:=by
 let un:Value→Addr:=fun v=>match v with|.ref a=>a|_=>0
 refine⟨vs.map un,?_,?_⟩
 ·rw[List.map_map]
  have:∀v∈vs,(Value.ref ∘ un) v=v:=by
   intro v hv
   obtain⟨a,_,rfl⟩:=List.mem_map.mp (h.mem_iff.mp hv)
   rfl
  conv=>lhs;rw[← List.map_id vs]
  exact List.map_congr_left fun v hv=>(this v hv).symm
 ·have:=h.map un
  rw[List.map_map] at this
  have e:as.map (un ∘ Value.ref)=as:=by
   conv=>rhs;rw[← List.map_id as]
   exact List.map_congr_left fun a _=>rfl
  rw[e] at this
  exact this
def aAV(K:PySem.W.Frag):List V→Hp→VK→Prop:=fun xs H Q=>∃ (l:Addr) (as:List Addr) (g:Addr→Int×Int),xs=[.ref l]∧SqL K H l (as.map V.ref)∧(∀a∈as,SqT K H a [.int (g a).1,.int (g a).2]∧0≤(g a).2∧(g a).2<64)∧as.length≤4096∧
 ∀ (D:Addr) (as':List Addr),H D=none→as'.Perm as→as'.Pairwise (fun a b=>pk (g a)≤pk (g b))→Q (.ref D) (upd H D (.lst (as'.map V.ref)))
theorem yR{X:Cx}:cW X (.builtin "sorted") (aAV X.K):=by
 intro pins s σ H xs us Q I r h
 obtain⟨l,as,g,rfl,hl,hp,hz,q⟩:=h
 obtain⟨u1,rfl,r1⟩:=r.one
 obtain rfl:u1=Value.ref l:=r1
 obtain⟨its,rv,pl,_⟩:=I.list hl
 have hits:=nG rv
 subst hits
 have hpv:gC s.heap g (as.map Value.ref):=by
  intro v hv
  obtain⟨a,ha,rfl⟩:=List.mem_map.mp hv
  obtain⟨hxy,b1,b2⟩:=hp a ha
  obtain⟨its,r,⟨o,e,c,n,d⟩,_⟩:=I.tuple hxy
  obtain⟨u1,u2,rfl,r1,r2⟩:=r.two
  obtain⟨t,rfl⟩:=r1
  obtain⟨t',rfl⟩:=r2
  exact⟨a,o,n,t,t',rfl,e,c,d,b1,b2⟩
 refine tK pl.isList hpv (by rw[List.length_map];exact hz) fun out hperm hord=>?_
 obtain⟨as',eo,pa⟩:=aAU hperm
 have hout:out=(as'.map Value.ref).toArray:=by rw[← eo]
 subst hout
 have ho:as'.Pairwise (fun a b=>pk (g a)≤pk (g b)):=by
  rw[eo,List.pairwise_map] at hord
  exact hord
 have sz1:((s.heap.push (seqObj "list" #[] 0)).update s.heap.objs.size (Obj.mapSeq (·++(as.map Value.ref).toArray))).objs.size=s.heap.objs.size+1:=by rw[Heap.size_update,size_push']
 have k1:∀b u,s.heap.get? b=some u→(((s.heap.push (seqObj "list" #[] 0)).update s.heap.objs.size (Obj.mapSeq (·++(as.map Value.ref).toArray))).push (seqObj "list" (as.map Value.ref).toArray 0)).get? b=some u:=fun b u e=>by
  have hb:b<s.heap.objs.size:=Heap.lt_size e
  rw[Heap.get?_push_ne _ _ _ (by rw[sz1];exact Nat.ne_of_lt (Nat.lt_succ_of_lt hb)),Heap.get?_update_ne _ _ _ _ (Nat.ne_of_lt hb),Heap.get?_push_ne _ _ _ (Nat.ne_of_lt hb)]
  exact e
 have hoL:(((s.heap.push (seqObj "list" #[] 0)).update s.heap.objs.size (Obj.mapSeq (·++(as.map Value.ref).toArray))).push (seqObj "list" (as.map Value.ref).toArray 0)).get? (s.heap.objs.size+1)=some (seqObj "list" (as.map Value.ref).toArray 0):=by
  rw[← sz1];exact Heap.get?_push_size _ rfl
 have sz2:(((s.heap.push (seqObj "list" #[] 0)).update s.heap.objs.size (Obj.mapSeq (·++(as.map Value.ref).toArray))).push (seqObj "list" (as.map Value.ref).toArray 0)).objs.size=s.heap.objs.size+2:=by rw[size_push',sz1]
 show EP X pins σ Q (.ref (s.heap.objs.size+1)) { s with heap:=sortedHeap (((s.heap.push (seqObj "list" #[] 0)).update s.heap.objs.size (Obj.mapSeq (·++(as.map Value.ref).toArray))).push (seqObj "list" (as.map Value.ref).toArray 0)) (s.heap.objs.size+1) (as.map Value.ref) (as'.map Value.ref).toArray }
 revert k1 hoL sz2
 generalize ((s.heap.push (seqObj "list" #[] 0)).update s.heap.objs.size (Obj.mapSeq (·++(as.map Value.ref).toArray))).push (seqObj "list" (as.map Value.ref).toArray 0)=h1
 intro k1 hoL sz2
 obtain⟨e1,ho1⟩:∃e1,(h1.update (s.heap.objs.size+1) (Obj.mapSeq fun _=>(#[]:Array Value))).get? (s.heap.objs.size+1)=some (seqObj "list" #[] e1):=⟨_,get?_update_seq hoL (fun _=>#[])⟩
 have ho6:(((h1.update (s.heap.objs.size+1) (Obj.mapSeq fun _=>(#[]:Array Value))).push (seqObj "tuple" (as.map Value.ref).toArray 0)).push (seqObj "list" #[] 0)).get? (s.heap.objs.size+1)=some (seqObj "list" #[] e1):=by
  rw[Heap.get?_push_ne _ _ _ (by rw[size_push',Heap.size_update,sz2];exact Nat.ne_of_lt (Nat.lt_succ_of_lt (Nat.lt_succ_self _))),Heap.get?_push_ne _ _ _ (by rw[Heap.size_update,sz2];exact Nat.ne_of_lt (Nat.lt_succ_self _))]
  exact ho1
 obtain⟨e2,ho7⟩:∃e2,(sortedHeap h1 (s.heap.objs.size+1) (as.map Value.ref) (as'.map Value.ref).toArray).get? (s.heap.objs.size+1)=some (seqObj "list" (as'.map Value.ref).toArray e2):=⟨_,get?_update_seq ho6 (fun _=>(as'.map Value.ref).toArray)⟩
 have keep:∀b u,s.heap.get? b=some u→(sortedHeap h1 (s.heap.objs.size+1) (as.map Value.ref) (as'.map Value.ref).toArray).get? b=some u:=fun b u e=>by
  have hb:b<s.heap.objs.size:=Heap.lt_size e
  unfold sortedHeap
  rw[Heap.get?_update_ne _ _ _ _ (Nat.ne_of_lt (Nat.lt_succ_of_lt hb)),Heap.get?_push_ne _ _ _ (by rw[size_push',Heap.size_update,sz2];exact Nat.ne_of_lt (Nat.lt_succ_of_lt (Nat.lt_succ_of_lt (Nat.lt_succ_of_lt hb)))),Heap.get?_push_ne _ _ _ (by rw[Heap.size_update,sz2];exact Nat.ne_of_lt (Nat.lt_succ_of_lt (Nat.lt_succ_of_lt hb))),Heap.get?_update_ne _ _ _ _ (Nat.ne_of_lt (Nat.lt_succ_of_lt hb))]
  exact k1 b u e
 have hnone:s.heap.get? (s.heap.objs.size+1)=none:=Heap.get?_none_of_le (by lia)
 refine⟨.ref (s.heap.objs.size+1),_,I.laidN (t':=s.toks) (o:=.lst (as'.map V.ref)) keep hnone ⟨?_,as'.map Value.ref,e2,rB,ho7⟩,rfl,q _ as' (I.hok.freshN hnone) pa ho⟩
 rw[List.length_map,pa.length_eq]
 exact Nat.le_trans hz (by decide)
end L2
namespace L2
open PySem PySem.Spec PyProof.Rows
theorem cB{c:Addr}{h h':Heap}(sb:Heap.SameBut c h h'){b:Addr}{o:Obj}(n:b≠c)(e:h.get? b=some o):h'.get? b=some o:=(sb.2 b n).trans e
theorem dX{c it t:Addr}{h h':Heap}{k:Nat}(r:h.IsTupleIter it t k)(sb:Heap.SameBut c h h')(n:it≠c):h'.IsTupleIter it t k:=r.at fun o e=>cB sb n e
theorem lG{c t:Addr}{h h':Heap}{xs:Array Value}(r:h.IsTuple t xs)(sb:Heap.SameBut c h h')(n:t≠c):h'.IsTuple t xs:=let ⟨o,e,z⟩:=r;⟨o,cB sb n e,z⟩
section
variable {prog:Program} {w:World} {A:Around} {E:Value→Shared→Prop} {s:Shared}
theorem aAW{z ti tq i1 i2 t1 t2:Addr}{k:Nat}{xs ys:Array Value}{x y a b:Value}{Q:Value→Shared→Prop}(dj:ZipApart z ti tq i1 i2 t1 t2)(gz:IsZip s.heap z ti tq .none)(gi:IsPair s.heap ti (.ref i1) (.ref i2))(gq:IsPair s.heap tq a b)(r1:s.heap.IsTupleIter i1 t1 k)(r2:s.heap.IsTupleIter i2 t2 k)(g1:s.heap.IsTuple t1 xs)(g2:s.heap.IsTuple t2 ys)(ex:xs[k]?=some x)(ey:ys[k]?=some y)(q:∀h',IsZip h' z ti tq (rawInt s.heap.objs.size)→IsPair h' tq x y→h'.IsTupleIter i1 t1 (k+1)→h'.IsTupleIter i2 t2 (k+1)→IsPair h' s.heap.objs.size x y→(∀c o,c≠z→c≠tq→c≠i1→c≠i2→s.heap.get? c=some o→h'.get? c=some o)→Q (.ref s.heap.objs.size) { s with heap:=h' }):
  wpAny (model prog w) A (Builtin.«zip.__next__» ⟨[.ref z],[]⟩) (fun fin s'=>∃v,fin=.done (.ret v)∧Q v s') E s:=by
 change wpAny _ _ (field (.ref z) 2 >>= _) _ _ _
 refine wpAny_bind (wpAny_field gz rfl (x:=.bool false) rfl ?_)
 change wpAny _ _ (field (.ref z) 3 >>= _) _ _ _
 refine wpAny_bind (wpAny_field gz rfl (x:=.ref ti) rfl (wpAny_bind (wpAny_seqItems gi rfl ?_)))
 change wpAny _ _ (Builtin.SmallTypes.ownedTupleIsFree (.ref z) >>= _) _ _ _
 refine wpAny_bind ?_
 unfold Builtin.SmallTypes.ownedTupleIsFree
 refine wpAny_bind (wpAny_field gz rfl (x:=.none) rfl (wpAny_pure ?_))
 simp only[if_true]
 refine wpAny_bind (wpAny_rule (wpAny_bind (wpAny_field gz rfl (x:=.ref tq) rfl ?_)))
 refine wpAny_bind (wpAny_setField_rec gz (by simp) fun m1 gz1 sb1=>?_)
 replace gz1:IsZip m1 z ti tq .ellipsis:=gz1
 refine wpAny_bind ?_
 simp only[List.zipIdx_cons,List.zipIdx_nil,List.forIn_cons,List.forIn_nil]
 refine wpAny_bind (wpAny_bind (wpAny_onRaise ?_))
 change wpAny _ _ (Builtin.SmallTypes.nextOf (.ref i1) >>= _) _ _ _
 refine wpAny_bind (kC (dX r1 sb1 dj.i1z) (lG g1 sb1 dj.l1z) ex fun m2 r12 sb2=>wpAny_pure ?_)
 have gq2:IsPair m2 tq a b:=cB sb2 dj.TOi1 (cB sb1 dj.TOz gq)
 refine wpAny_bind (wpAny_seqItems gq2 rfl (wpAny_bind (wpAny_updateSeq_pair gq2 fun m3 gq3 sb3=>?_)))
 replace gq3:IsPair m3 tq x b:=gq3
 refine wpAny_bind (wpAny_letGo (wpAny_pure ?_))
 refine wpAny_bind (wpAny_bind (wpAny_onRaise ?_))
 change wpAny _ _ (Builtin.SmallTypes.nextOf (.ref i2) >>= _) _ _ _
 refine wpAny_bind (kC (dX (dX (dX r2 sb1 dj.i2z) sb2 dj.i12.symm) sb3 dj.TOi2.symm) (lG (lG (lG g2 sb1 dj.l2z) sb2 dj.l2i1) sb3 dj.l2TO) ey fun m4 r24 sb4=>wpAny_pure ?_)
 have gq4:IsPair m4 tq x b:=cB sb4 dj.TOi2 gq3
 refine wpAny_bind (wpAny_seqItems gq4 rfl (wpAny_bind (wpAny_updateSeq_pair gq4 fun m5 gq5 sb5=>?_)))
 replace gq5:IsPair m5 tq x y:=gq5
 refine wpAny_bind (wpAny_letGo (wpAny_pure (wpAny_pure ?_)))
 refine wpAny_bind (wpAny_seqItems gq5 rfl (wpAny_bind (wpAny_newTuple ?_)))
 have sz:m5.objs.size=s.heap.objs.size:=by rw[sb5.1,sb4.1,sb3.1,sb2.1,sb1.1]
 have gz5:IsZip m5 z ti tq .ellipsis:=cB sb5 dj.TOz.symm (cB sb4 dj.i2z.symm (cB sb3 dj.TOz.symm (cB sb2 dj.i1z.symm gz1)))
 have kp5:∀c o,c≠z→c≠tq→c≠i1→c≠i2→s.heap.get? c=some o→m5.get? c=some o:=fun c o c1 c2 c3 c4 e=>
  cB sb5 c2 (cB sb4 c4 (cB sb3 c2 (cB sb2 c3 (cB sb1 c1 e))))
 have r15:m5.IsTupleIter i1 t1 (k+1):=dX (dX (dX r12 sb3 dj.TOi1.symm) sb4 dj.i12) sb5 dj.TOi1.symm
 have r25:m5.IsTupleIter i2 t2 (k+1):=dX r24 sb5 dj.TOi2.symm
 have zl:z<m5.objs.size:=Heap.lt_size gz5
 change wpAny _ _ (Builtin.SmallTypes.ownedTupleHandOut (.ref z) (.ref m5.objs.size) >>= _) _ _ _
 refine wpAny_bind ?_
 unfold Builtin.SmallTypes.ownedTupleHandOut
 have gz6:IsZip (m5.push { cls:=.type "tuple",data:=.seq #[x,y] }) z ti tq .ellipsis:=Heap.get?_push_of_some _ gz5
 refine wpAny_bind (wpAny_setField_rec gz6 (by simp) fun m7 gz7 sb7=>?_)
 replace gz7:IsZip m7 z ti tq (rawInt m5.objs.size):=gz7
 refine wpAny_setField_rec gz7 (by simp) fun m8 gz8 sb8=>?_
 replace gz8:IsZip m8 z ti tq (rawInt m5.objs.size):=gz8
 have up:∀c o,c≠z→m5.get? c=some o→m8.get? c=some o:=fun c o c1 e=>cB sb8 c1 (cB sb7 c1 (Heap.get?_push_of_some _ e))
 have gp8:IsPair m8 m5.objs.size x y:=cB sb8 (Nat.ne_of_gt zl) (cB sb7 (Nat.ne_of_gt zl) (Heap.get?_push_size _ rfl))
 rw[sz] at gz8 gp8
 refine wpAny_pure ⟨_,rfl,?_⟩
 change Q (.ref m5.objs.size) _
 rw[sz]
 exact q m8 gz8 (up _ _ dj.TOz gq5) (r15.at fun o e=>up _ o dj.i1z e) (r25.at fun o e=>up _ o dj.i2z e) gp8 fun c o c1 c2 c3 c4 e=>up c o c1 (kp5 c o c1 c2 c3 c4 e)
theorem aBM{z ti tq i1 i2 t1 t2:Addr}{k:Nat}{xs:Array Value}{Q:PySem.Fin→Shared→Prop}(hh:A.handled=none)(dj:ZipApart z ti tq i1 i2 t1 t2)(gz:IsZip s.heap z ti tq .none)(gi:IsPair s.heap ti (.ref i1) (.ref i2))(r1:s.heap.IsTupleIter i1 t1 k)(g1:s.heap.IsTuple t1 xs)(ex:xs[k]?=none)(q:∀h' e,(∀c o,c≠z→c≠i1→s.heap.get? c=some o→h'.get? c=some o)→(∃o,h'.get? e=some o∧o.cls=.type "StopIteration")→E (.ref e) { s with heap:=h' }):
  wpAny (model prog w) A (Builtin.«zip.__next__» ⟨[.ref z],[]⟩) Q E s:=by
 change wpAny _ _ (field (.ref z) 2 >>= _) _ _ _
 refine wpAny_bind (wpAny_field gz rfl (x:=.bool false) rfl ?_)
 change wpAny _ _ (field (.ref z) 3 >>= _) _ _ _
 refine wpAny_bind (wpAny_field gz rfl (x:=.ref ti) rfl (wpAny_bind (wpAny_seqItems gi rfl ?_)))
 change wpAny _ _ (Builtin.SmallTypes.ownedTupleIsFree (.ref z) >>= _) _ _ _
 refine wpAny_bind ?_
 unfold Builtin.SmallTypes.ownedTupleIsFree
 refine wpAny_bind (wpAny_field gz rfl (x:=.none) rfl (wpAny_pure ?_))
 simp only[if_true]
 refine wpAny_bind (wpAny_rule (wpAny_bind (wpAny_field gz rfl (x:=.ref tq) rfl ?_)))
 refine wpAny_bind (wpAny_setField_rec gz (by simp) fun m1 gz1 sb1=>?_)
 replace gz1:IsZip m1 z ti tq .ellipsis:=gz1
 refine wpAny_bind ?_
 simp only[List.zipIdx_cons,List.zipIdx_nil,List.forIn_cons,List.forIn_nil]
 refine wpAny_bind (wpAny_bind (wpAny_onRaise ?_))
 change wpAny _ _ (Builtin.SmallTypes.nextOf (.ref i1) >>= _) _ _ _
 refine wpAny_bind (lD hh (dX r1 sb1 dj.i1z) (lG g1 sb1 dj.l1z) ex fun m2 e sb2 he=>?_)
 obtain⟨oe,hoe,hce⟩:=he
 have gz2:IsZip m2 z ti tq .ellipsis:=sb2 _ _ dj.i1z.symm gz1
 have nez:e≠z:=fun y=>by subst y;rw[gz2] at hoe;cases hoe;simp at hce
 exact wpAny_setField_rec gz2 (by simp) fun m3 _ sb3=>q m3 e (fun c o c1 c3 y=>cB sb3 c1 (sb2 _ _ c3 (cB sb1 c1 y))) ⟨oe,cB sb3 nez hoe,hce⟩
theorem yS{z ti tq i1 i2 t1 t2:Addr}{k:Nat}{xs ys:Array Value}{x y a b:Value}{Q:Option Value→Shared→Prop}(dj:ZipApart z ti tq i1 i2 t1 t2)(gz:IsZip s.heap z ti tq .none)(gi:IsPair s.heap ti (.ref i1) (.ref i2))(gq:IsPair s.heap tq a b)(r1:s.heap.IsTupleIter i1 t1 k)(r2:s.heap.IsTupleIter i2 t2 k)(g1:s.heap.IsTuple t1 xs)(g2:s.heap.IsTuple t2 ys)(ex:xs[k]?=some x)(ey:ys[k]?=some y)(q:∀h',IsZip h' z ti tq (rawInt s.heap.objs.size)→IsPair h' tq x y→h'.IsTupleIter i1 t1 (k+1)→h'.IsTupleIter i2 t2 (k+1)→IsPair h' s.heap.objs.size x y→(∀c o,c≠z→c≠tq→c≠i1→c≠i2→s.heap.get? c=some o→h'.get? c=some o)→Q (some (.ref s.heap.objs.size)) { s with heap:=h' }):
  wpAny (model prog w) A (pyNext (.ref z)) Q E s:=by
 have ty:s.TypeIs (.ref z) "zip":=⟨_,gz,rfl⟩
 unfold pyNext
 refine wpAny_bind (wpAny_attempt (wpAny_callSpecial?_slot (name:=Str.ofString "__next__") ty F.slot_zip_next (wpAny_call_entry F.slot_zip_next ty F.entry_zip_next ?_ (F.args_zip_next_1 _))))
 exact aAW dj gz gi gq r1 r2 g1 g2 ex ey fun h' a1 a2 a3 a4 a5 a6=>wpAny_pure (q h' a1 a2 a3 a4 a5 a6)
theorem yT{z ti tq i1 i2 t1 t2:Addr}{k:Nat}{xs:Array Value}{Q:Option Value→Shared→Prop}(hh:A.handled=none)(dj:ZipApart z ti tq i1 i2 t1 t2)(gz:IsZip s.heap z ti tq .none)(gi:IsPair s.heap ti (.ref i1) (.ref i2))(r1:s.heap.IsTupleIter i1 t1 k)(g1:s.heap.IsTuple t1 xs)(ex:xs[k]?=none)(q:∀h',(∀c o,c≠z→c≠i1→s.heap.get? c=some o→h'.get? c=some o)→Q none { s with heap:=h' }):wpAny (model prog w) A (pyNext (.ref z)) Q E s:=by
 have ty:s.TypeIs (.ref z) "zip":=⟨_,gz,rfl⟩
 unfold pyNext
 refine wpAny_bind (wpAny_attempt (wpAny_callSpecial?_slot (name:=Str.ofString "__next__") ty F.slot_zip_next (wpAny_call_entry F.slot_zip_next ty F.entry_zip_next (aBM hh dj gz gi r1 g1 ex fun h' e hk he=>?_) (F.args_zip_next_1 _))))
 obtain⟨o,ho,hc⟩:=he
 exact wpAny_bind (wpAny_isInstance (T:="StopIteration") (b:=true) ⟨o,ho,hc⟩ isSubtype_stop (wpAny_pure (q _ hk)))
abbrev zT(t:Addr):Obj:={ cls:=.type "tuple_iterator",data:=.fields #[.ref t,.int 0 0] }
abbrev zT3(h:Heap)(t1 t2:Addr):Heap:=((h.push (zT t1)).push (zT t2)).push { cls:=.type "tuple",data:=.seq #[.ref h.objs.size,.ref (h.push (zT t1)).objs.size] }
abbrev zT4(h:Heap)(t1 t2:Addr):Heap:=(zT3 h t1 t2).push { cls:=.type "tuple",data:=.seq #[.none,.none] }
abbrev zT5(h:Heap)(t1 t2:Addr):Heap:=(zT4 h t1 t2).push { cls:=.type "zip",data:=.fields #[.none,.bool false,.bool false,.ref ((h.push (zT t1)).push (zT t2)).objs.size,.ref (zT3 h t1 t2).objs.size] }
theorem aBN(t1 t2:Addr)(xs ys:Array Value):
  Meets (Builtin.«zip.__new__» ⟨[.type "zip",.ref t1,.ref t2],[]⟩) (fun _ R s=>s.heap.IsTuple t1 xs∧s.heap.IsTuple t2 ys∧R (.ok (.ret (.ref (zT4 s.heap t1 t2).objs.size))) { s with heap:=zT5 s.heap t1 t2 }):=
 .of_wp fun prog w A R s h=>by
  obtain⟨hp,g,d,tk,os⟩:=s
  obtain⟨g1,g2,h⟩:=h
  have hsub:=sub_zip
  have gA:Heap.IsTuple (Shared.heap ⟨hp,g,d,tk,os⟩) t1 xs:=g1
  have gB:Heap.IsTuple (Shared.heap ⟨hp.push (zT t1),g,d,tk,os⟩) t2 ys:=let ⟨o,e,z⟩:=g2;⟨o,Heap.get?_push_of_some _ e,z⟩
  wp_walk using wpAny_pyIter_tuple gA,wpAny_pyIter_tuple gB
  exact⟨_,rfl,h⟩
end
end L2
namespace L2
open PySem PySem.Spec PyProof.Rows
section
variable {prog:Program} {w:World} {A:Around} {E:Value→Shared→Prop} {s:Shared}
theorem aAX{t1 t2:Addr}{xs ys:Array Value}{Q:Value→Shared→Prop}(g1:s.heap.IsTuple t1 xs)(g2:s.heap.IsTuple t2 ys)(q:∀h',IsZip h' (s.heap.objs.size+4) (s.heap.objs.size+2) (s.heap.objs.size+3) .none→IsPair h' (s.heap.objs.size+2) (.ref s.heap.objs.size) (.ref (s.heap.objs.size+1))→IsPair h' (s.heap.objs.size+3) .none .none→
   h'.IsTupleIter s.heap.objs.size t1 0→h'.IsTupleIter (s.heap.objs.size+1) t2 0→(∀c o,s.heap.get? c=some o→h'.get? c=some o)→Q (.ref (s.heap.objs.size+4)) { s with heap:=h' }):
  wpAny (model prog w) A (call (.type "zip") [.ref t1,.ref t2]) Q E s:=by
 refine callType_new F.called_zip (by decide) (F.typeCall_zip_2 _ _) (F.newCall_zip_2 _ _) (fun obj=>F.args_object_init_3 obj _ _) F.entry_zip_new (aBN t1 t2 xs ys) ⟨g1,g2,?_⟩
 have n1:(s.heap.push (zT t1)).objs.size=s.heap.objs.size+1:=Heap.size_push ..
 have n2:((s.heap.push (zT t1)).push (zT t2)).objs.size=s.heap.objs.size+2:=by rw[Heap.size_push,n1]
 have n3:(zT3 s.heap t1 t2).objs.size=s.heap.objs.size+3:=by rw[Heap.size_push,n2]
 have n4:(zT4 s.heap t1 t2).objs.size=s.heap.objs.size+4:=by rw[Heap.size_push,n3]
 have e5:(zT5 s.heap t1 t2).get? (zT4 s.heap t1 t2).objs.size=some _:=Heap.get?_push_size _ rfl
 have e4:(zT5 s.heap t1 t2).get? (zT3 s.heap t1 t2).objs.size=some _:=Heap.get?_push_of_some _ (Heap.get?_push_size _ rfl)
 have e3:(zT5 s.heap t1 t2).get? ((s.heap.push (zT t1)).push (zT t2)).objs.size=some _:=Heap.get?_push_of_some _ (Heap.get?_push_of_some _ (Heap.get?_push_size _ rfl))
 have e2:(zT5 s.heap t1 t2).get? (s.heap.push (zT t1)).objs.size=some _:=Heap.get?_push_of_some _ (Heap.get?_push_of_some _ (Heap.get?_push_of_some _ (Heap.get?_push_size _ rfl)))
 have e1:(zT5 s.heap t1 t2).get? s.heap.objs.size=some _:=Heap.get?_push_of_some _ (Heap.get?_push_of_some _ (Heap.get?_push_of_some _ (Heap.get?_push_of_some _ (Heap.get?_push_size _ rfl))))
 change _∧_
 rw[n2,n3,n4] at e5
 rw[n1,n2] at e3
 rw[n3] at e4
 rw[n1] at e2
 rw[n4]
 exact⟨⟨_,e5,rfl⟩,q _ e5 e3 e4 ⟨_,e1,rfl,rfl⟩ ⟨_,e2,rfl,rfl⟩ fun c o y=>
  Heap.get?_push_of_some _ (Heap.get?_push_of_some _ (Heap.get?_push_of_some _ (Heap.get?_push_of_some _ (Heap.get?_push_of_some _ y))))⟩
end
theorem Inv.turnedL{X:Cx}{pins:List (Addr×Obj)}{σ:St}{H:Hp}{s:Shared}{h':Heap}{t':Nat}{ch:List Addr}(I:Inv X pins σ H s)(fe:∀e∈ch,FpOk X pins H e)(k:∀b o,b∉ch→s.heap.get? b=some o→h'.get? b=some o):Inv X pins σ H { s with heap:=h',toks:=t' }:=by
 have nit:∀b u,H b=some u→b∉ch:=fun b u e z=>by rw[(fe b z).1] at e;cases e
 refine I.step (g':=s.gens) (d':=s.drawn) (ch:=ch) (fun b hb=>?_) (fun b o _ _ hc e _=>k b o hc e) (fun b o _ _ hc e _=>⟨o.slots,k b o hc e⟩) (fun _ _ _ _ n=>n) (fun b o hc e=>⟨o,k b o hc e⟩) (fun _ _ e=>e) (fun _ _ _ e=>e) (fun b ps e=>⟨#[],by rw[e];simp⟩) (fun m hm=>?_) (fun b u e=>?_) I.bare
 ·obtain⟨_,f1,_,f3,f4,f5⟩:=fe b hb
  exact⟨f3,f1,f4,f5⟩
 ·obtain⟨o,es,ep,ho,r⟩:=hm
  exact⟨o,es,ep,k _ o (fun z=>(fe _ z).2.1 rfl) ho,r⟩
 ·refine(I.hok b u e).stay (fun c v hc q=>k c v ?_ q) (fun _ q=>q) fun _ _ q=>q
  rcases hc with z|z
  ·rw[z];exact nit b u e
  ·exact nit c _ z
theorem Inv.turnedT{X:Cx}{pins:List (Addr×Obj)}{σ:St}{H:Hp}{s:Shared}{h':Heap}{p:Addr}{t':Nat}{ch:List Addr}{xs:List V}{its:List Value}(I:Inv X pins σ H s)(fe:∀e∈ch,FpOk X pins H e)(k:∀b o,b∉ch→s.heap.get? b=some o→h'.get? b=some o)(hp:s.heap.objs.size≤p)(hl:xs.length≤sizeLine)(r:Vals xs its)(ht:h'.get? p=some { cls:=.type "tuple",data:=.seq its.toArray }):Inv X pins σ (upd H p (.tup xs)) { s with heap:=h',toks:=t' }:=by
 have hn:=I.hok.fresh hp
 have ne:∀b o,s.heap.get? b=some o→b≠p:=fun b o q=>Nat.ne_of_lt (Nat.lt_of_lt_of_le (Heap.lt_size q) hp)
 have nit:∀b u,H b=some u→b∉ch:=fun b u e z=>by rw[(fe b z).1] at e;cases e
 refine I.step (g':=s.gens) (d':=s.drawn) (ch:=ch) (fun b hb=>?_) (fun b o _ _ hb q _=>k b o hb q) (fun b o _ _ hb q _=>⟨o.slots,k b o hb q⟩) (fun b o hb q n=>by rw[aF (ne b o q)];exact n) (fun b o hb q=>⟨o,k b o hb q⟩)
  (fun b ys q=>by rw[aF (aH q hn)];exact q) (fun b o u q=>by rw[aF (aH q hn)];exact q) (fun b ps q=>⟨#[],by rw[aF (aH q hn),q];simp⟩) (fun m hm=>?_) (fun b o q=>?_) I.bare
 ·obtain⟨_,f1,_,f3,f4,f5⟩:=fe b hb
  exact⟨f3,f1,f4,f5⟩
 ·obtain⟨o,es,ep,q,d,r'⟩:=hm
  exact⟨o,es,ep,k _ _ (fun z=>(fe _ z).2.1 rfl) q,d,r'⟩
 ·by_cases hb:b=p
  ·subst hb
   rw[aB] at q;cases q
   exact⟨hl,its,r,_,ht,rfl,_,rfl,rfl⟩
  ·rw[aF hb] at q
   refine(I.hok b o q).stay (fun c u hc z=>k c u ?_ z) (fun c z=>by rw[aF (aH z hn)];exact z) fun c ys z=>by rw[aF (aH z hn)];exact z
   rcases hc with rfl|hc
   ·exact nit _ _ q
   ·exact nit _ _ hc
def Itz(K:PySem.W.Frag)(a b:Addr):It:=
 ⟨fun i H=>∃xs ys x y,SqT K H a xs∧SqT K H b ys∧xs[i]?=some x∧ys[i]?=some y,fun i H v H'=>∃p x y,v=.ref p∧H p=none∧H'=upd H p (.tup [x,y])∧(∀xs,SqT K H a xs→xs[i]?=some x)∧∀ys,SqT K H b ys→ys[i]?=some y,fun i H=>∃xs,SqT K H a xs∧xs.length≤i⟩
theorem aBO{P:Program}{w:World}{K:PySem.W.Frag}{es:List Expr}{x1:Nat}{pos:Pos}(a b z ti tq i1 i2:Addr)(dj:ZipApart z ti tq i1 i2 a b):
  Turn P w K (.Tuple es x1 pos) (Itz K a b) [z,ti,tq,i1,i2] z (fun i h=>IsZip h z ti tq .none∧IsPair h ti (.ref i1) (.ref i2)∧(∃u v,IsPair h tq u v)∧h.IsTupleIter i1 a i∧h.IsTupleIter i2 b i) where
 mem:=by simp
 obj:=fun i h st c hc=>by
  obtain⟨gz,gi,⟨u,v,gq⟩,⟨o1,q1,c1,d1⟩,⟨o2,q2,c2,d2⟩⟩:=st
  simp only[List.mem_cons,List.not_mem_nil,or_false] at hc
  rcases hc with rfl|rfl|rfl|rfl|rfl
  ·exact⟨_,gz,fun v z=>by have z':Data.fields _=Data.cell v:=z;cases z'⟩
  ·exact⟨_,gi,fun v z=>by have z':Data.seq _ _=Data.cell v:=z;cases z'⟩
  ·exact⟨_,gq,fun v z=>by have z':Data.seq _ _=Data.cell v:=z;cases z'⟩
  ·exact⟨o1,q1,fun v z=>by rw[d1] at z;cases z⟩
  ·exact⟨o2,q2,fun v z=>by rw[d2] at z;cases z⟩
 keep:=fun i h h' st k=>by
  obtain⟨gz,gi,⟨u,v,gq⟩,r1,r2⟩:=st
  exact⟨k z (by simp) _ gz,k ti (by simp) _ gi,⟨u,v,k tq (by simp) _ gq⟩,r1.at fun o q=>k i1 (by simp) o q,r2.at fun o q=>k i2 (by simp) o q⟩
 item:=by
  intro X hP hw hK hc i pins s σ H E I hf st hg
  subst hP hw hK
  obtain⟨xs,ys,x,y,hx,hy,ex,ey⟩:=hg
  obtain⟨us,rx,px,_⟩:=I.tuple hx
  obtain⟨vs,ry,py,_⟩:=I.tuple hy
  obtain⟨u,hu,ru⟩:=rx.get ex
  obtain⟨v,hv,rv⟩:=ry.get ey
  obtain⟨gz,gi,⟨u0,v0,gq⟩,r1,r2⟩:=st
  refine yS dj gz gi gq r1 r2 (show s.heap.IsTuple a us.toArray from px) (show s.heap.IsTuple b vs.toArray from py) (x:=u) (y:=v) (by simpa using hu) (by simpa using hv) fun h1 gz1 gq1 r11 r21 gp1 kp=>?_
  refine⟨_,rfl,wpAny_letOwnedTupleGo_zip gz1 fun h2 gz2 sb2=>?_⟩
  have zl:z<s.heap.objs.size:=Heap.lt_size gz
  have nz:s.heap.objs.size≠z:=Nat.ne_of_gt zl
  have kp2:∀c o,c∉[z,tq,i1,i2]→s.heap.get? c=some o→h2.get? c=some o:=fun c o hc e=>by
   simp only[List.mem_cons,List.not_mem_nil,or_false,not_or] at hc
   exact cB sb2 hc.1 (kp c o hc.1 hc.2.1 hc.2.2.1 hc.2.2.2 e)
  have gi2:IsPair h2 ti (.ref i1) (.ref i2):=kp2 _ _ (by simp only[List.mem_cons,List.not_mem_nil,or_false,not_or];exact⟨dj.TIz,dj.TITO,dj.TIi1,dj.TIi2⟩) gi
  have fe:∀e∈[z,tq,i1,i2],FpOk X pins H e:=fun e he=>hf e (by simp only[List.mem_cons,List.not_mem_nil,or_false] at he ⊢;rcases he with h|h|h|h <;> simp[h])
  have I2:Inv X pins σ (upd H s.heap.objs.size (.tup [x,y])) { s with heap:=h2,toks:=s.toks }:=
   I.turnedT (its:=[u,v]) fe kp2 (Nat.le_refl _) (by show 2≤sizeLine;decide) (.cons ru (.cons rv .nil)) (cB sb2 nz gp1)
  refine⟨.ref s.heap.objs.size,_,I2,rfl,⟨_,x,y,rfl,I.hok.fresh (Nat.le_refl _),rfl,fun zs hz=>by rw[I.tuple_inj hz hx];exact ex,fun zs hz=>by rw[I.tuple_inj hz hy];exact ey⟩,⟨gz2,gi2,⟨u,v,cB sb2 dj.TOz gq1⟩,dX r11 sb2 dj.i1z,dX r21 sb2 dj.i2z⟩,fun c hc=>?_⟩
  have f0:=(hf c hc).1
  have cl:c<s.heap.objs.size:=by
   simp only[List.mem_cons,List.not_mem_nil,or_false] at hc
   rcases hc with rfl|rfl|rfl|rfl|rfl
   ·exact zl
   ·exact Heap.lt_size gi
   ·exact Heap.lt_size gq
   ·obtain⟨o,q,_⟩:=r1;exact Heap.lt_size q
   ·obtain⟨o,q,_⟩:=r2;exact Heap.lt_size q
  rw[aF (Nat.ne_of_lt cl)];exact f0
 done:=by
  intro X hP hw hK hc i pins s σ H E I hf st hg
  subst hP hw hK
  obtain⟨xs,hx,hi⟩:=hg
  obtain⟨us,rx,px,_⟩:=I.tuple hx
  obtain⟨gz,gi,⟨u0,v0,gq⟩,r1,r2⟩:=st
  have hl:=rx.length
  refine yT (I.ok.hd hc) dj gz gi r1 (show s.heap.IsTuple a us.toArray from px) (by simp;lia) fun h' kp=>⟨rfl,?_⟩
  have fe:∀e∈[z,i1],FpOk X pins H e:=fun e he=>hf e (by simp only[List.mem_cons,List.not_mem_nil,or_false] at he ⊢;rcases he with h|h <;> simp[h])
  refine I.turnedL (t':=s.toks) fe fun c o hc e=>?_
  simp only[List.mem_cons,List.not_mem_nil,or_false,not_or] at hc
  exact kp c o hc.1 hc.2 e
 self:=fun _ _ _ _ _ st h=>wpAny_pyIter_zip st.1 h
section
variable {X:Cx}
def aEI(K:PySem.W.Frag)(ta:TA):TI:=fun σ H R=>ta σ H fun vs H1=>∃a b xs ys,vs=[.ref a,.ref b]∧SqT K H1 a xs∧SqT K H1 b ys∧xs.length=ys.length∧R (Itz K a b) H1
theorem aC1{es:List Expr}{x1:Nat}{tpos:Pos}{a b:Expr}{ta:TA}{p pos:Pos}(hg:Gl X "zip")(hm:X.mg "zip"=none)(ha:PA X [a,b] ta)(hs:starEach [a,b] X.env=[(false,eval a X.env),(false,eval b X.env)]:=by rfl)(hs2:starEach [b] X.env=[(false,eval b X.env)]:=by rfl):
  PI X (.Tuple es x1 tpos) (.Call (.Name "zip" p) [a,b] [] pos) (aEI X.K ta):=by
 intro pins s σ H R I h
 refine Call_ (gY I hg hm PyProof.Rows.boot_zip (PyProof.Rows.callWith_type1 (thn (ha pos pins s σ H _ I h) fun us s1 ⟨vs,H1,I1,r1,q1⟩=>?_) (by rw[hs,hs2]) (by rw[hs2];rfl)))
 obtain⟨l,m,xs,ys,rfl,hl,hm',hxy,q⟩:=q1
 obtain⟨u1,u2,rfl,ru1,ru2⟩:=r1.two
 obtain rfl:u1=Value.ref l:=ru1
 obtain rfl:u2=Value.ref m:=ru2
 obtain⟨its,rv,pt,_⟩:=I1.tuple hl
 obtain⟨its2,rv2,pt2,_⟩:=I1.tuple hm'
 have hlt:l<s1.heap.objs.size:=by obtain⟨o,e,_⟩:=pt;exact Heap.lt_size e
 have hlt2:m<s1.heap.objs.size:=by obtain⟨o,e,_⟩:=pt2;exact Heap.lt_size e
 refine aAX (show s1.heap.IsTuple l its.toArray from pt) (show s1.heap.IsTuple m its2.toArray from pt2) fun h' gz gi gq r1 r2 k=>?_
 refine wpAny_pyIter_zip gz ?_
 have I2:Inv X pins σ H1 { s1 with heap:=h' }:=I1.kept (t':=s1.toks) k
 refine⟨s1.heap.objs.size+4,[s1.heap.objs.size+4,s1.heap.objs.size+2,s1.heap.objs.size+3,s1.heap.objs.size,s1.heap.objs.size+1],_,_,H1,rfl,I2,aBO l m _ _ _ _ _ (zipApart_new hlt hlt2),⟨gz,gi,⟨_,_,gq⟩,r1,r2⟩,fun b hb=>?_,q⟩
 have hb':s1.heap.objs.size≤b:=by
  simp only[List.mem_cons,List.not_mem_nil,or_false] at hb
  rcases hb with rfl|rfl|rfl|rfl|rfl
  ·exact Nat.le_add_right _ _
  ·exact Nat.le_add_right _ _
  ·exact Nat.le_add_right _ _
  ·exact Nat.le_refl _
  ·exact Nat.le_add_right _ _
 exact I1.fpOk hb' (I1.hok.fresh hb')
theorem aBP{K:PySem.W.Frag}{a b D:Addr}{xs ys:List V}{g:TG}{tt:TT}{te:TE}{fin:Hp→Prop}{σB:St}{H0:Hp}(hxy:xs.length=ys.length)(Pv:Nat→List V→St→Hp→Prop)(h0:Pv 0 [] σB H0)(hl:∀i zs σ H,i≤xs.length→Pv i zs σ H→SqT K H a xs∧SqT K H b ys)(hs:∀i x y p zs σ H (Kt:V→St→Hp→Prop) (Kf:St→Hp→Prop),xs[i]?=some x→ys[i]?=some y→Pv i zs σ H→H p=none→
   (∀v σ2 H4,H4 D=some (.lst zs)→zs.length<sizeLine→Pv (i+1) (zs++[v]) σ2 (upd H4 D (.lst (zs++[v])))→Kt v σ2 H4)→(∀σ2 H3,Pv (i+1) zs σ2 H3→Kf σ2 H3)→
   g (.ref p) σ (upd H p (.tup [x,y])) fun σ2 H2=>tt σ2 H2 fun b H3=>if b=true then te σ2 H3 fun v H4=>Kt v σ2 H4 else Kf σ2 H3)(hd:∀zs σ H,Pv xs.length zs σ H→fin H):dN (Itz K a b) g tt te D fin σB H0:=by
 refine⟨fun i m σ H=>m=xs.length-i∧i≤xs.length∧∃zs,Pv i zs σ H,⟨xs.length,by simp,Nat.zero_le _,[],h0⟩,?_⟩
 rintro i m σ H ⟨rfl,hi,zs,p⟩
 obtain⟨q1,q2⟩:=hl i zs σ H hi p
 by_cases hlt:i<xs.length
 ·have hlt2:i<ys.length:=by lia
  refine .inr ⟨⟨xs,ys,xs[i],ys[i],q1,q2,by simp[hlt],by simp[hlt2]⟩,?_⟩
  rintro v H' ⟨pp,x,y,rfl,hn,rfl,hv1,hv2⟩
  exact hs i x y pp zs σ _ (fun v σ2 H4=>∃zs,H4 D=some (.lst zs)∧zs.length<sizeLine∧∃m',m'<xs.length-i∧m'=xs.length-(i+1)∧i+1≤xs.length∧∃zs',Pv (i+1) zs' σ2 (upd H4 D (.lst (zs++[v]))))
   (fun σ2 H3=>∃m',m'<xs.length-i∧m'=xs.length-(i+1)∧i+1≤xs.length∧∃zs',Pv (i+1) zs' σ2 H3) (hv1 xs q1) (hv2 ys q2) p hn
   (fun v σ2 H4 z1 z2 z3=>⟨zs,z1,z2,_,by lia,rfl,hlt,_,z3⟩) (fun σ2 H3 z=>⟨_,by lia,rfl,hlt,_,z⟩)
 ·have e:i=xs.length:=by lia
  subst e
  exact .inl ⟨⟨xs,q1,Nat.le_refl _⟩,hd zs σ H p⟩
end
end L2
namespace L2
open PySem PySem.Spec PyProof.Rows
section
variable {X:Cx}
theorem yU{s:Shared}{A:Around}{xs ys:List V}{us vs:List Value}(rx:Vals xs us)(ry:Vals ys vs)(fx:xs.all dC=true)(fy:ys.all dC=true):
  ∀j (h1:j<us.toArray.size) (h2:j<vs.toArray.size),SeqAt.EqAt A s us.toArray[j] vs.toArray[j] (eqV (xs.getD j .non) (ys.getD j .non)):=by
 intro j h1 h2
 have j1:j<xs.length:=by rw[rx.length];simpa using h1
 have j2:j<ys.length:=by rw[ry.length];simpa using h2
 have e1:xs[j]?=some (xs.getD j .non):=by rw[List.getD_eq_getElem?_getD,List.getElem?_eq_getElem j1];rfl
 have e2:ys[j]?=some (ys.getD j .non):=by rw[List.getD_eq_getElem?_getD,List.getElem?_eq_getElem j2];rfl
 obtain⟨u,hu1,ru⟩:=rx.get e1
 obtain⟨v,hv1,rv⟩:=ry.get e2
 have eu:us.toArray[j]=u:=by
  have:us[j]?=some us.toArray[j]:=by simp at h1 ⊢
  rw[hu1] at this;exact(Option.some.inj this).symm
 have ev:vs.toArray[j]=v:=by
  have:vs[j]?=some vs.toArray[j]:=by simp at h2 ⊢
  rw[hv1] at this;exact(Option.some.inj this).symm
 rw[eu,ev]
 exact sO ru rv (List.all_eq_true.mp fx _ (List.mem_of_getElem? e1)) (List.all_eq_true.mp fy _ (List.mem_of_getElem? e2))
theorem aBQ{pins:List (Addr×Obj)}{σ:St}{H:Hp}{s:Shared}{A:Around}{a b:Addr}{xs ys:List V}(I:Inv X pins σ H s)(hu:A.units+1<cLine)(ha:SqT X.K H a xs)(hb:SqT X.K H b ys)(hl:xs.length=ys.length)(fx:xs.all dC=true)(fy:ys.all dC=true):
  SeqAt.EqAt A s (.ref a) (.ref b) (eS eqV xs ys):=by
 by_cases hab:a=b
 ·subst hab
  have e1:=I.tuple_inj ha hb
  subst e1
  have e2:eS eqV xs xs=true:=by
   clear ha hb hl fy
   induction xs with
   |nil=>rfl
   |cons x xs ih=>
    rw[List.all_cons,Bool.and_eq_true] at fx
    rw[eS,ih fx.2,Bool.and_true]
    cases x <;> first|rfl|(show (_==_)=true;simp)|exact absurd (show false=true from fx.1) Bool.false_ne_true
  rw[e2]
  exact SeqAt.EqAt.same _
 ·obtain⟨us,r1,p1,_⟩:=I.tuple ha
  obtain⟨vs,r2,p2,_⟩:=I.tuple hb
  have h:=SeqAt.RcAt.tuples (A:=A) (s:=s) (l:=a) (b:=b) (e:=fun i=>eqV (xs.getD i .non) (ys.getD i .non)) (show s.heap.IsTuple a us.toArray from p1) (show s.heap.IsTuple b vs.toArray from p2) (by lia)
   (yU r1 r2 fx fy)
  refine SeqAt.EqAt.of_refs hab ?_
  have er:((List.range (min us.toArray.size vs.toArray.size)).all (fun i=>eqV (xs.getD i .non) (ys.getD i .non))&&us.toArray.size==vs.toArray.size)=eS eqV xs ys:=by
   rw[List.size_toArray,List.size_toArray,← r1.length,← r2.length,← hl,Nat.min_self,beq_self_eq_true,Bool.and_true,jC hl]
  rw[er] at h
  exact h
theorem yV{p q:Int×Int}:eS eqV [.int p.1,.int p.2] [.int q.1,.int q.2]=decide (p=q):=by
 obtain⟨a,b⟩:=p
 obtain⟨c,d⟩:=q
 show ((a==c)&&((b==d)&&true))=decide ((a,b)=(c,d))
 by_cases h1:a=c <;> by_cases h2:b=d <;> simp[h1,h2]
def rInP(K:PySem.W.Frag)(neg:Bool):R2:=fun x y H Q=>∃ (p l:Addr) (u:Int×Int) (as:List Addr) (ps:List (Int×Int)),x=.ref p∧y=.ref l∧SqT K H p [.int u.1,.int u.2]∧SqL K H l (as.map V.ref)∧as.length=ps.length∧(∀i,i<ps.length→SqT K H (as.getD i 0) [.int (ps.getD i (0,0)).1,.int (ps.getD i (0,0)).2])∧
 Q (.bl (if neg then !decide (u∈ps) else decide (u∈ps))) H
open Classical in
theorem wV{pins:List (Addr×Obj)}{σ:St}{H:Hp}{s:Shared}(I:Inv X pins σ H s){u:Int×Int}:∀ {as:List Addr} {ps:List (Int×Int)},as.length=ps.length→(∀i,i<ps.length→SqT X.K H (as.getD i 0) [.int (ps.getD i (0,0)).1,.int (ps.getD i (0,0)).2])→
  ((as.map Value.ref).any fun v=>decide (∃a,v=Value.ref a∧SqT X.K H a [.int u.1,.int u.2]))=decide (u∈ps)
 |[],[],_,_=>by simp
 |a::as,p::ps,hl,h=>by
  have ih:=wV I (u:=u) (as:=as) (ps:=ps) (by simpa using hl) (fun i hi=>h (i+1) (by simpa using hi))
  have h0:SqT X.K H a [.int p.1,.int p.2]:=h 0 (by simp)
  rw[List.map_cons,List.any_cons,ih]
  have e:decide (∃b,Value.ref a=Value.ref b∧SqT X.K H b [.int u.1,.int u.2])=decide (u=p):=by
   rw[Bool.eq_iff_iff,decide_eq_true_iff,decide_eq_true_iff]
   constructor
   ·rintro⟨b,e,hb⟩
    cases e
    have:=I.tuple_inj h0 hb
    have e1:p.1=u.1:=V.int.inj (List.cons.inj this).1
    have e2:p.2=u.2:=V.int.inj (List.cons.inj (List.cons.inj this).2).1
    exact Prod.ext e1.symm e2.symm
   ·rintro rfl
    exact⟨a,rfl,h0⟩
  rw[e]
  by_cases z:u=p
  ·simp[z]
  ·simp[z]
open Classical in
theorem aBR{pins:List (Addr×Obj)}{σ:St}{H:Hp}{s:Shared}{A:Around}(I:Inv X pins σ H s)(hu:A.units+1<cLine){p:Addr}{u:Int×Int}(hp:SqT X.K H p [.int u.1,.int u.2]){as:List Addr}{ps:List (Int×Int)}(hl:as.length=ps.length)(h:∀i,i<ps.length→SqT X.K H (as.getD i 0) [.int (ps.getD i (0,0)).1,.int (ps.getD i (0,0)).2]):∀v∈as.map Value.ref,SeqAt.EqAt A s v (.ref p) (decide (∃a,v=Value.ref a∧SqT X.K H a [.int u.1,.int u.2])):=by
 intro v hv
 obtain⟨a,ha,rfl⟩:=List.mem_map.mp hv
 obtain⟨i,hi,e⟩:=List.mem_iff_getElem.mp ha
 have hq:=h i (by lia)
 have ea:as.getD i 0=a:=by rw[List.getD_eq_getElem?_getD,List.getElem?_eq_getElem hi];exact e
 rw[ea] at hq
 have z:=aBQ (A:=A) I hu hq hp rfl rfl rfl
 rw[yV] at z
 have e:decide (∃b,Value.ref a=Value.ref b∧SqT X.K H b [.int u.1,.int u.2])=decide (ps.getD i (0,0)=u):=by
  rw[Bool.eq_iff_iff,decide_eq_true_iff,decide_eq_true_iff]
  constructor
  ·rintro⟨b,e,hb⟩
   cases e
   have:=I.tuple_inj hq hb
   exact Prod.ext (V.int.inj (List.cons.inj this).1) (V.int.inj (List.cons.inj (List.cons.inj this).2).1)
  ·intro e
   rw[← e]
   exact⟨a,rfl,hq⟩
 rw[e]
 exact z
open Classical in
theorem rC(hu:X.A.units+2<cLine):OpR X (compareOp .NotIn) (rInP X.K true):=by
 intro pins s σ H x y v u Q I rx ry h
 obtain⟨p,l,w,as,ps,rfl,rfl,hp,hl,hlen,hps,q⟩:=h
 obtain rfl:v=Value.ref p:=rx
 obtain rfl:u=Value.ref l:=ry
 obtain⟨its,r,pl,_⟩:=I.list hl
 have e:=nG r
 subst e
 refine SeqAt.notIn_listAt (fun v=>decide (∃a,v=Value.ref a∧SqT X.K H a [.int w.1,.int w.2])) pl.isList (fun y hy=>aBR I (by show X.A.units+1+1<cLine;lia) hp hlen hps y (by simpa using hy)) ⟨.bl _,H,I,rfl,?_⟩
 rw[show (as.map Value.ref).toArray.any (fun v=>decide (∃a,v=Value.ref a∧SqT X.K H a [.int w.1,.int w.2]))=(as.map Value.ref).any (fun v=>decide (∃a,v=Value.ref a∧SqT X.K H a [.int w.1,.int w.2])) by simp,wV I hlen hps]
 exact q
def aEJ(K:PySem.W.Frag)(t:TGs):TG:=fun v σ H Q=>∃a x y,v=.ref a∧SqL K H a [x,y]∧t [x,y] σ H Q
theorem aC2{es:List Expr}{k:Nat}{t:TGs}{pos:Pos}(hc:X.calm=true)(h:PGs X es t)(hn:(assignEach es X.env).length=2:=by rfl)(hst:(assignEach es X.env).findIdx? (·.1)=none:=by rfl):PG X (.Tuple es k pos) (aEJ X.K t):=by
 intro pins s σ H v u Q I r hw
 obtain⟨a,x,y,e1,hq,hw⟩:=hw
 subst e1
 cases r
 obtain⟨its,rv,ht,hz⟩:=I.list hq
 obtain⟨u1,u2,rfl,r1,r2⟩:=rv.two
 have hlt:a≠s.heap.objs.size:=by
  obtain⟨o,ho,_⟩:=ht.isList
  exact Nat.ne_of_lt (Heap.lt_size ho)
 rw[assign_Tuple]
 refine wpAny_bind (wpAny_standAt ?_)
 unfold unpack
 rw[hn,hst]
 refine wpAny_bind (wpAny_holding ?_)
 unfold unpackItems
 refine wpAny_bind ?_
 unfold notIterableAtAll
 refine wpAny_bind (wpAny_specialOf ht.isList.typeIs slot_list_iter.lookup (wpAny_pure ?_))
 simp only[Bool.false_eq_true,if_false]
 refine wpAny_bind (wpAny_holding (wpAny_pyIter_list ht.isList ?_))
 have hL0:(s.heap.push { cls:=.type "list_iterator",data:=.fields #[.ref a,.int 0 0] }).IsList a [u1,u2].toArray:=ht.isList.push _
 refine wpAny_bind (wpAny_holding ?_)
 change wpAny _ _ (pyNext (.ref s.heap.objs.size) >>= _) _ _ _
 refine wpAny_bind (wpAny_pyNext_list_item (it:=s.heap.objs.size) (l:=a) (i:=0) (s:={ s with heap:=s.heap.push { cls:=.type "list_iterator",data:=.fields #[.ref a,.int 0 0] } }) ⟨_,Heap.get?_push_size _ rfl,rfl,rfl⟩ hL0 (x:=u1) rfl fun h1 it1 sb1=>?_)
 refine wpAny_bind (wpAny_holding ?_)
 change wpAny _ _ (pyNext (.ref s.heap.objs.size) >>= _) _ _ _
 have hL1:h1.IsList a [u1,u2].toArray:=hL0.extBut sb1.extBut hlt
 refine wpAny_bind (wpAny_pyNext_list_item (s:={ s with heap:=h1 }) it1 hL1 (x:=u2) rfl fun h2 it2 sb2=>?_)
 have hL2:h2.IsList a [u1,u2].toArray:=hL1.extBut sb2.extBut hlt
 refine wpAny_bind (wpAny_holding (wpAny_pure (wpAny_pure (wpAny_pure ?_))))
 rw[if_neg (by simp)]
 refine wpAny_bind (wpAny_holding (wpAny_pyNext_list_end (s:={ s with heap:=h2 }) (I.ok.hd hc) it2 hL2 rfl fun h3 eb3=>?_))
 simp only[Option.isSome_none,Bool.false_eq_true,if_false]
 refine wpAny_pure ?_
 have I1:Inv X pins σ H { s with heap:=h3 }:=I.kept (t':=s.toks) fun b o e=>by
  have nb:b≠s.heap.objs.size:=Nat.ne_of_lt (Heap.lt_size e)
  exact eb3 b o nb (sb2.extBut b o nb (sb1.extBut b o nb (Heap.get?_push_of_some _ e)))
 exact h pins _ σ H [x,y] _ Q I1 (.cons r1 (.cons r2 .nil)) hw
end
end L2
namespace L2
open PySem PySem.Spec PyProof.Rows PySem.W
theorem vQ{h:Heap}{vs:List Value}{out:Array Value}:(∃e,(sortedAll h vs out).get? (h.objs.size+1)=some (seqObj "list" out e))∧∀b u,h.get? b=some u→(sortedAll h vs out).get? b=some u:=by
 have sz1:((h.push (seqObj "list" #[] 0)).update h.objs.size (Obj.mapSeq (·++vs.toArray))).objs.size=h.objs.size+1:=by rw[Heap.size_update,size_push']
 have k1:∀b u,h.get? b=some u→(((h.push (seqObj "list" #[] 0)).update h.objs.size (Obj.mapSeq (·++vs.toArray))).push (seqObj "list" vs.toArray 0)).get? b=some u:=fun b u e=>by
  have hb:b<h.objs.size:=Heap.lt_size e
  rw[Heap.get?_push_ne _ _ _ (by rw[sz1];exact Nat.ne_of_lt (Nat.lt_succ_of_lt hb)),Heap.get?_update_ne _ _ _ _ (Nat.ne_of_lt hb),Heap.get?_push_ne _ _ _ (Nat.ne_of_lt hb)]
  exact e
 have hoL:(((h.push (seqObj "list" #[] 0)).update h.objs.size (Obj.mapSeq (·++vs.toArray))).push (seqObj "list" vs.toArray 0)).get? (h.objs.size+1)=some (seqObj "list" vs.toArray 0):=by
  rw[← sz1];exact Heap.get?_push_size _ rfl
 have sz2:(((h.push (seqObj "list" #[] 0)).update h.objs.size (Obj.mapSeq (·++vs.toArray))).push (seqObj "list" vs.toArray 0)).objs.size=h.objs.size+2:=by rw[size_push',sz1]
 unfold sortedAll
 revert k1 hoL sz2
 generalize ((h.push (seqObj "list" #[] 0)).update h.objs.size (Obj.mapSeq (·++vs.toArray))).push (seqObj "list" vs.toArray 0)=h1
 intro k1 hoL sz2
 obtain⟨e1,ho1⟩:∃e1,(h1.update (h.objs.size+1) (Obj.mapSeq fun _=>(#[]:Array Value))).get? (h.objs.size+1)=some (seqObj "list" #[] e1):=⟨_,get?_update_seq hoL (fun _=>#[])⟩
 have ho6:(((h1.update (h.objs.size+1) (Obj.mapSeq fun _=>(#[]:Array Value))).push (seqObj "tuple" vs.toArray 0)).push (seqObj "list" #[] 0)).get? (h.objs.size+1)=some (seqObj "list" #[] e1):=by
  rw[Heap.get?_push_ne _ _ _ (by rw[size_push',Heap.size_update,sz2];exact Nat.ne_of_lt (Nat.lt_succ_of_lt (Nat.lt_succ_self _))),Heap.get?_push_ne _ _ _ (by rw[Heap.size_update,sz2];exact Nat.ne_of_lt (Nat.lt_succ_self _))]
  exact ho1
 refine⟨⟨_,get?_update_seq ho6 (fun _=>out)⟩,fun b u e=>?_⟩
 have hb:b<h.objs.size:=Heap.lt_size e
 unfold sortedHeap
 rw[Heap.get?_update_ne _ _ _ _ (Nat.ne_of_lt (Nat.lt_succ_of_lt hb)),Heap.get?_push_ne _ _ _ (by rw[size_push',Heap.size_update,sz2];exact Nat.ne_of_lt (Nat.lt_succ_of_lt (Nat.lt_succ_of_lt (Nat.lt_succ_of_lt hb)))),Heap.get?_push_ne _ _ _ (by rw[Heap.size_update,sz2];exact Nat.ne_of_lt (Nat.lt_succ_of_lt (Nat.lt_succ_of_lt hb))),Heap.get?_update_ne _ _ _ _ (Nat.ne_of_lt (Nat.lt_succ_of_lt hb))]
 exact k1 b u e
end L2
namespace NetM
abbrev Ts:=List (Int×Int)
def T(ts:Ts)(a b:Nat):Prop:=(((a:Nat):Int),((b:Nat):Int))∈ts
instance (ts:Ts) (a b:Nat):Decidable (T ts a b):=inferInstanceAs (Decidable (_∈_))
def Walk(ts:Ts):Nat→Nat→Nat→Prop
 |0,a,b=>a=b
 |k+1,a,b=>∃c,Walk ts k a c∧T ts c b
theorem Walk.trans{ts:Ts}{k:Nat}{a b:Nat}(h:Walk ts k a b):∀ {l:Nat} {c:Nat},Walk ts l b c→Walk ts (k+l) a c
 |0,_,e=>by cases e;exact h
 |l+1,_,⟨d,w,t⟩=>⟨d,h.trans w,t⟩
theorem Walk.one{ts:Ts}{a b:Nat}(h:T ts a b):Walk ts 1 a b:=⟨a,rfl,h⟩
theorem Walk.cons{ts:Ts}{k a b c:Nat}(h:T ts a b)(w:Walk ts k b c):Walk ts (k+1) a c:=by
 have:=(Walk.one h).trans w
 rwa [Nat.add_comm] at this
def mG(ts:Ts)(a b d:Nat):Prop:=Walk ts d a b∧∀k,Walk ts k a b→d≤k
theorem mG.uniq{ts:Ts}{a b d e:Nat}(h:mG ts a b d)(g:mG ts a b e):d=e:=Nat.le_antisymm (h.2 _ g.1) (g.2 _ h.1)
open Classical in
noncomputable def far(ts:Ts)(a b:Nat):Nat:=if h:∃d,mG ts a b d then h.choose else 0
theorem aD3{ts:Ts}{a b d:Nat}(h:mG ts a b d):far ts a b=d:=by
 unfold far
 have hx:∃d,mG ts a b d:=⟨d,h⟩
 rw[dif_pos hx]
 exact hx.choose_spec.uniq h
structure Fine(n:Nat)(ts:Ts):Prop where
 n1:2≤n
 n2:n≤32
 nd:ts.Nodup
 rg:∀t∈ts,(0≤t.1∧t.1<n)∧(0≤t.2∧t.2<n)
 ne:∀t∈ts,t.1≠t.2
 bal:∀h:Int,(ts.filter fun t=>decide (t.1=h)).length=(ts.filter fun t=>decide (t.2=h)).length
 most:∀h:Int,(ts.filter fun t=>decide (t.1=h)).length≤8
 con:∀a b,a<n→b<n→∃k,Walk ts k a b
theorem rD{α:Type}(f:α→Int):∀ (l:List α) (n:Nat),(∀x∈l,0≤f x∧f x<n)→(∀h:Int,(l.filter fun t=>decide (f t=h)).length≤8)→l.length≤8*n:=by
 intro l n
 induction n generalizing l with
 |zero=>
  intro h _
  cases l with
  |nil=>simp
  |cons x xs=>have:=h x List.mem_cons_self;lia
 |succ n ih=>
  intro h h8
  have e:l.length=(l.filter fun t=>decide (f t=(n:Int))).length+(l.filter fun t=>!decide (f t=(n:Int))).length:=by
   induction l with
   |nil=>rfl
   |cons x xs ih2=>
    have:=ih2 (fun y hy=>h y (List.mem_cons_of_mem _ hy)) (fun hh=>Nat.le_trans (by rw[List.filter_cons];split <;> simp) (h8 hh))
    by_cases q:f x=(n:Int) <;> simp[List.filter_cons,q] <;> lia
  have i2:=ih (l.filter fun t=>!decide (f t=(n:Int))) (fun x hx=>by
   have a:=h x (List.mem_filter.mp hx |>.1)
   have b:=(List.mem_filter.mp hx).2
   simp at b
   lia) (fun hh=>by
   refine Nat.le_trans ?_ (h8 hh)
   exact(List.filter_sublist.filter _).length_le)
  have:=h8 (n:Int)
  lia
theorem Fine.len{n:Nat}{ts:Ts}(F:Fine n ts):ts.length≤256:=by
 have:=rD (·.1) ts n (fun t ht=>(F.rg t ht).1) F.most
 have:=F.n2
 lia
theorem Fine.tlt{n:Nat}{ts:Ts}(F:Fine n ts){a b:Nat}(h:T ts a b):a<n∧b<n∧a≠b:=by
 have q:=F.rg _ h
 have q2:=F.ne _ h
 refine⟨by have:=q.1;simp at this;lia,by have:=q.2;simp at this;lia,fun e=>q2 (by rw[e])⟩
def outN(n:Nat)(ts:Ts)(h:Nat):List Nat:=((List.range n).map fun s=>(h+s) % n).filter fun o=>decide (T ts h o)
theorem cU{n:Nat}{ts:Ts}(F:Fine n ts){h o:Nat}(hh:h<n):o∈outN n ts h↔T ts h o:=by
 unfold outN
 rw[List.mem_filter,decide_eq_true_eq]
 refine⟨fun z=>z.2,fun z=>⟨?_,z⟩⟩
 obtain⟨_,h2,_⟩:=F.tlt z
 refine List.mem_map.mpr ⟨if h≤o then o-h else o+n-h,List.mem_range.mpr (by split <;> lia),?_⟩
 split
 ·rw[show h+(o-h)=o by lia,Nat.mod_eq_of_lt h2]
 ·rw[show h+(o+n-h)=o+n by lia,Nat.add_mod_right,Nat.mod_eq_of_lt h2]
theorem mH{n:Nat}{ts:Ts}(F:Fine n ts){h o:Nat}(hh:h<n)(ho:o∈outN n ts h):o<n:=(F.tlt ((cU F hh).mp ho)).2.1
def key(n h o:Nat):Int:=((o:Int)-(h:Int)) % (n:Int)
theorem jK{n h s:Nat}(hh:h<n)(hs:s<n):key n h ((h+s) % n)=(s:Int):=by
 unfold key
 by_cases c:h+s<n
 ·rw[Nat.mod_eq_of_lt c,show (((h+s:Nat):Int)-(h:Int))=(s:Int) by lia]
  exact Int.emod_eq_of_lt (by lia) (by lia)
 ·have e:(h+s) % n=h+s-n:=by
   rw[Nat.mod_eq_sub_mod (by lia),Nat.mod_eq_of_lt (by lia)]
  rw[e,show ((((h+s-n:Nat)):Int)-(h:Int))=(s:Int)-(n:Int) by lia,Int.sub_emod_right]
  exact Int.emod_eq_of_lt (by lia) (by lia)
theorem mW{n:Nat}{ts:Ts}{h:Nat}(hh:h<n):(outN n ts h).Pairwise fun a b=>key n h a<key n h b:=by
 unfold outN
 refine List.Pairwise.filter _ ?_
 refine List.pairwise_map.mpr ?_
 refine List.Pairwise.imp_of_mem ?_ (List.pairwise_lt_range (n:=n))
 intro a b ha hb hab
 rw[jK hh (List.mem_range.mp ha),jK hh (List.mem_range.mp hb)]
 lia
theorem mX{α:Type}{k:α→Int}:∀ {a b:List α},a.Pairwise (fun x y=>k x<k y)→b.Pairwise (fun x y=>k x<k y)→(∀x,x∈a↔x∈b)→a=b
 |[],[],_,_,_=>rfl
 |[],y::ys,_,_,h=>absurd ((h y).mpr List.mem_cons_self) (by simp)
 |x::xs,[],_,_,h=>absurd ((h x).mp List.mem_cons_self) (by simp)
 |x::xs,y::ys,ha,hb,h=>by
  obtain⟨a1,a2⟩:=List.pairwise_cons.mp ha
  obtain⟨b1,b2⟩:=List.pairwise_cons.mp hb
  have e:x=y:=by
   rcases List.mem_cons.mp ((h x).mp List.mem_cons_self) with z|z
   ·exact z
   ·rcases List.mem_cons.mp ((h y).mpr List.mem_cons_self) with z'|z'
    ·exact z'.symm
    ·have q1:=b1 x z
     have q2:=a1 y z'
     lia
  subst e
  refine congrArg (x::·) (mX a2 b2 fun z=>⟨fun hz=>?_,fun hz=>?_⟩)
  ·rcases List.mem_cons.mp ((h z).mp (List.mem_cons_of_mem _ hz)) with q|q
   ·subst q;exact absurd (a1 _ hz) (by lia)
   ·exact q
  ·rcases List.mem_cons.mp ((h z).mpr (List.mem_cons_of_mem _ hz)) with q|q
   ·subst q;exact absurd (b1 _ hz) (by lia)
   ·exact q
structure Bfs(n:Nat)(ts:Ts)(s i:Nat)(R:List Nat)(f:Nat→Nat):Prop where
 nd:R.Nodup
 lt:∀x∈R,x<n
 st:s∈R
 z:f s=0
 wk:∀x∈R,Walk ts (f x) s x
 up:R.Pairwise fun a b=>f a≤f b
 bd:∀u,R[i]?=some u→∀x∈R,f x≤f u+1
 cl:∀j u,j<i→R[j]?=some u→∀v,T ts u v→v∈R∧f v≤f u+1
theorem Bfs.start{n:Nat}{ts:Ts}{s:Nat}(hs:s<n):Bfs n ts s 0 [s] (fun _=>0):=
 ⟨by simp,fun x hx=>by simp at hx;lia,by simp,rfl,fun x hx=>by simp at hx;subst hx;rfl,by simp,fun u _ x _=>by lia,fun j u h=>absurd h (by lia)⟩
def put(f:Nat→Nat)(v k:Nat):Nat→Nat:=fun y=>if y=v then k else f y
theorem fT{f:Nat→Nat}{v k:Nat}:put f v k v=k:=by simp[put]
theorem dJ{f:Nat→Nat}{v k x:Nat}(h:x≠v):put f v k x=f x:=by simp[put,h]
theorem Bfs.add{n:Nat}{ts:Ts}{s i u v:Nat}{R:List Nat}{f:Nat→Nat}(B:Bfs n ts s i R f)(hu:R[i]?=some u)(hv:v<n)(t:T ts u v)(hn:v∉R):Bfs n ts s i (R++[v]) (put f v (f u+1)):=by
 have hur:u∈R:=List.mem_of_getElem? hu
 have nv:∀x∈R,x≠v:=fun x hx e=>hn (e ▸ hx)
 have hi:i<R.length:=(List.getElem?_eq_some_iff.mp hu).1
 refine⟨?_,fun x hx=>?_,List.mem_append_left _ B.st,by rw[dJ (nv s B.st)];exact B.z,fun x hx=>?_,?_,fun w hw x hx=>?_,fun j w hj hw x hx=>?_⟩
 ·rw[List.nodup_append]
  exact⟨B.nd,by simp,fun a ha b hb e=>by simp at hb;subst hb;exact hn (e ▸ ha)⟩
 ·rcases List.mem_append.mp hx with z|z
  ·exact B.lt x z
  ·simp at z;lia
 ·rcases List.mem_append.mp hx with z|z
  ·rw[dJ (nv x z)];exact B.wk x z
  ·simp at z;subst z
   rw[fT]
   exact⟨u,B.wk u hur,t⟩
 ·rw[List.pairwise_append]
  refine⟨B.up.imp_of_mem fun {a b} ha hb h=>by rw[dJ (nv a ha),dJ (nv b hb)];exact h,by simp,fun a ha b hb=>?_⟩
  simp at hb;subst hb
  rw[dJ (nv a ha),fT]
  exact B.bd u hu a ha
 ·have hw':w=u:=by
   rw[List.getElem?_append_left hi,hu] at hw
   exact(Option.some.inj hw).symm
  subst hw'
  rw[dJ (nv w hur)]
  rcases List.mem_append.mp hx with z|z
  ·rw[dJ (nv x z)];exact B.bd w hu x z
  ·simp at z;subst z;rw[fT];exact Nat.le_refl _
 ·rw[List.getElem?_append_left (by lia)] at hw
  obtain⟨a,b⟩:=B.cl j w hj hw x hx
  refine⟨List.mem_append_left _ a,?_⟩
  rw[dJ (nv x a),dJ (nv w (List.mem_of_getElem? hw))]
  exact b
theorem Bfs.next{n:Nat}{ts:Ts}{s i u:Nat}{R:List Nat}{f:Nat→Nat}(B:Bfs n ts s i R f)(hu:R[i]?=some u)(h:∀v,T ts u v→v∈R∧f v≤f u+1):Bfs n ts s (i+1) R f:=by
 refine⟨B.nd,B.lt,B.st,B.z,B.wk,B.up,fun w hw x hx=>?_,fun j w hj hw v hv=>?_⟩
 ·have h1:=B.bd u hu x hx
  have h2:f u≤f w:=by
   have hi:i<R.length:=(List.getElem?_eq_some_iff.mp hu).1
   have hi':i+1<R.length:=(List.getElem?_eq_some_iff.mp hw).1
   have:=List.pairwise_iff_getElem.mp B.up i (i+1) hi hi' (by lia)
   rw[List.getElem?_eq_getElem hi] at hu
   rw[List.getElem?_eq_getElem hi'] at hw
   rw[Option.some.inj hu,Option.some.inj hw] at this
   exact this
  lia
 ·by_cases e:j=i
  ·subst e
   rw[hu] at hw
   cases hw
   exact h v hv
  ·exact B.cl j w (by lia) hw v hv
theorem dY:∀ {n:Nat} {R:List Nat},R.Nodup→(∀x∈R,x<n)→R.length≤n:=by
 intro n R hn hl
 have key:∀ (a b:List Nat),a.Nodup→(∀x∈a,x∈b)→a.length≤b.length:=by
  intro a
  induction a with
  |nil=>intro b _ _;exact Nat.zero_le _
  |cons x xs ih=>
   intro b hn hs
   obtain⟨h1,h2⟩:=List.nodup_cons.mp hn
   have hx:x∈b:=hs x List.mem_cons_self
   have:=ih (b.erase x) h2 fun y hy=>(List.mem_erase_of_ne (fun (e:y=x)=>h1 (e ▸ hy))).mpr (hs y (List.mem_cons_of_mem _ hy))
   rw[List.length_erase_of_mem hx] at this
   have:0<b.length:=List.length_pos_of_mem hx
   rw[List.length_cons]
   lia
 have:=key R (List.range n) hn fun x hx=>List.mem_range.mpr (hl x hx)
 rwa [List.length_range] at this
theorem Bfs.done{n:Nat}{ts:Ts}{s i:Nat}{R:List Nat}{f:Nat→Nat}(B:Bfs n ts s i R f)(F:Fine n ts)(hi:R.length≤i){x:Nat}(hx:x<n):x∈R∧f x=far ts s x:=by
 have cl:∀u∈R,∀v,T ts u v→v∈R∧f v≤f u+1:=fun u hu v hv=>by
  obtain⟨j,hj,e⟩:=List.mem_iff_getElem.mp hu
  exact B.cl j u (by lia) (by rw[List.getElem?_eq_getElem hj,e]) v hv
 have walk:∀k x,Walk ts k s x→x∈R∧f x≤k:=by
  intro k
  induction k with
  |zero=>intro x e;cases e;exact⟨B.st,by rw[B.z];exact Nat.le_refl _⟩
  |succ k ih=>
   rintro x ⟨c,w,t⟩
   obtain⟨c1,c2⟩:=ih c w
   obtain⟨d1,d2⟩:=cl c c1 x t
   exact⟨d1,by lia⟩
 obtain⟨k,w⟩:=F.con s x (B.lt s B.st) hx
 obtain⟨m,_⟩:=walk k x w
 exact⟨m,(aD3 ⟨B.wk x m,fun k w=>(walk k x w).2⟩).symm⟩
end NetM
namespace NetM
theorem Walk.mono{ts ts':Ts}(h:∀t∈ts,t∈ts'):∀ {k a b:Nat},Walk ts k a b→Walk ts' k a b
 |0,_,_,e=>e
 |_+1,_,_,⟨c,w,t⟩=>⟨c,w.mono h,h _ t⟩
structure Pre(n:Nat)(ts:Ts):Prop where
 nd:ts.Nodup
 rg:∀t∈ts,(0≤t.1∧t.1<n)∧(0≤t.2∧t.2<n)
 ne:∀t∈ts,t.1≠t.2
 bal:∀h:Int,(ts.filter fun t=>decide (t.1=h)).length=(ts.filter fun t=>decide (t.2=h)).length
 most:∀h:Int,(ts.filter fun t=>decide (t.1=h)).length≤8
theorem Fine.pre{n:Nat}{ts:Ts}(F:Fine n ts):Pre n ts:=⟨F.nd,F.rg,F.ne,F.bal,F.most⟩
theorem Pre.fine{n:Nat}{ts:Ts}(P:Pre n ts)(n1:2≤n)(n2:n≤32)(c:∀a b,a<n→b<n→∃k,Walk ts k a b):Fine n ts:=⟨n1,n2,P.nd,P.rg,P.ne,P.bal,P.most,c⟩
theorem Fine.perm{n:Nat}{ts ts':Ts}(F:Fine n ts)(p:ts'.Perm ts):Fine n ts':=
  ⟨F.n1,F.n2,p.nodup_iff.mpr F.nd,fun t ht=>F.rg t (p.mem_iff.mp ht),fun t ht=>F.ne t (p.mem_iff.mp ht),fun h=>by rw[(p.filter _).length_eq,(p.filter _).length_eq];exact F.bal h,
   fun h=>by rw[(p.filter _).length_eq];exact F.most h,fun a b ha hb=>let ⟨k,w⟩:=F.con a b ha hb;⟨k,w.mono fun t ht=>p.mem_iff.mpr ht⟩⟩
theorem Fine.app{n:Nat}{ts us:Ts}(F:Fine n ts)(P:Pre n (ts++us)):Fine n (ts++us):=
 P.fine F.n1 F.n2 fun a b ha hb=>let ⟨k,w⟩:=F.con a b ha hb;⟨k,w.mono fun t ht=>List.mem_append_left _ ht⟩
def pk(c k:Nat):Nat:=if k=0 then c-1 else k-1
abbrev ci(x:Nat):Int:=(x:Int)
def cyc(xs:List Nat):Ts:=(List.range xs.length).map fun k=>(ci (xs.getD (pk xs.length k) 0),ci (xs.getD k 0))
theorem cY{xs:List Nat}{k:Nat}(h:k<xs.length):xs.getD k 0=xs[k]:=by rw[List.getD_eq_getElem?_getD,List.getElem?_eq_getElem h];rfl
theorem wW(xs:List Nat):(cyc xs).map (·.2)=xs.map ci:=by
 unfold cyc
 rw[List.map_map]
 apply List.ext_getElem
 ·simp
 ·intro i h1 h2
  simp only[List.getElem_map,List.getElem_range,Function.comp]
  rw[cY (by simpa using h2)]
theorem wX(xs:List Nat):((cyc xs).map (·.1)).Perm (xs.map ci):=by
 cases hx:xs with
 |nil=>exact List.Perm.refl _
 |cons y ys=>
  rw[← hx]
  have hl:xs.length=ys.length+1:=by rw[hx];rfl
  have e:(cyc xs).map (·.1)=ci (xs.getD (xs.length-1) 0)::(xs.take (xs.length-1)).map ci:=by
   unfold cyc
   rw[List.map_map]
   apply List.ext_getElem
   ·simp;lia
   ·intro i h1 h2
    simp only[List.getElem_map,List.getElem_range,Function.comp]
    cases i with
    |zero=>rfl
    |succ i=>
     have hi:i+1<xs.length:=by simpa using h1
     simp only[List.getElem_cons_succ,List.getElem_map,List.getElem_take]
     unfold pk
     rw[if_neg (by lia),show i+1-1=i by lia,cY (by lia)]
  rw[e]
  have:xs.map ci=(xs.take (xs.length-1)).map ci++[ci (xs.getD (xs.length-1) 0)]:=by
   conv=>lhs;rw[← List.take_append_drop (xs.length-1) xs]
   rw[List.map_append]
   congr 1
   rw[List.drop_eq_getElem_cons (by lia),List.drop_eq_nil_of_le (by lia),cY (by lia)]
   rfl
  rw[this]
  exact(List.perm_append_singleton _ _).symm
theorem iN(ts:Ts)(h:Int):(ts.filter fun t=>decide (t.1=h)).length=(ts.map (·.1)).count h:=by
 induction ts with
 |nil=>rfl
 |cons t ts ih=>by_cases e:t.1=h <;> simp[List.filter_cons,List.count_cons,e,ih]
theorem nI(ts:Ts)(h:Int):(ts.filter fun t=>decide (t.2=h)).length=(ts.map (·.2)).count h:=by
 induction ts with
 |nil=>rfl
 |cons t ts ih=>by_cases e:t.2=h <;> simp[List.filter_cons,List.count_cons,e,ih]
theorem tL{xs:List Nat}(h:xs.Nodup):(xs.map ci).Nodup:=by
 refine List.pairwise_map.mpr (h.imp fun {a b} hab e=>hab ?_)
 exact Int.ofNat.inj e
theorem lH{α β:Type}{f:α→β}:∀ {l:List α},(l.map f).Nodup→l.Nodup
 |[],_=>List.nodup_nil
 |a::l,h=>by
  rw[List.map_cons] at h
  obtain⟨h1,h2⟩:=List.nodup_cons.mp h
  exact List.nodup_cons.mpr ⟨fun z=>h1 (List.mem_map.mpr ⟨a,z,rfl⟩),lH h2⟩
theorem jN{xs:List Nat}{t:Int×Int}(h:t∈cyc xs):∃k,k<xs.length∧t=(ci (xs.getD (pk xs.length k) 0),ci (xs.getD k 0)):=by
 obtain⟨k,hk,rfl⟩:=List.mem_map.mp h
 exact⟨k,List.mem_range.mp hk,rfl⟩
theorem mI{c k:Nat}(h:k<c):pk c k<c:=by unfold pk;split <;> lia
theorem lI{xs:List Nat}{k:Nat}(h:k<xs.length):xs.getD k 0∈xs:=by rw[cY h];exact List.getElem_mem h
theorem lJ{xs:List Nat}(nd:xs.Nodup){i j:Nat}(hi:i<xs.length)(hj:j<xs.length)(e:xs[i]=xs[j]):i=j:=by
 have pw:=List.pairwise_iff_getElem.mp nd
 rcases Nat.lt_trichotomy i j with z|z|z
 ·exact absurd e (pw i j hi hj z)
 ·exact z
 ·exact absurd e.symm (pw j i hj hi z)
theorem pQ{n:Nat}{xs:List Nat}(nd:xs.Nodup)(lt:∀x∈xs,x<n)(c2:2≤xs.length):Pre n (cyc xs)∧∀h:Int,((cyc xs).filter fun t=>decide (t.1=h)).length≤1:=by
 have nd2:((cyc xs).map (·.2)).Nodup:=by rw[wW];exact tL nd
 have one:∀h:Int,((cyc xs).filter fun t=>decide (t.1=h)).length≤1:=fun h=>by
  rw[iN,(wX xs).count_eq]
  exact List.nodup_iff_count.mp (tL nd) h
 refine⟨⟨lH nd2,fun t ht=>?_,fun t ht=>?_,fun h=>?_,fun h=>Nat.le_trans (one h) (by decide)⟩,one⟩
 ·obtain⟨k,hk,rfl⟩:=jN ht
  have h1:=lt _ (lI (mI hk))
  have h2:=lt _ (lI hk)
  simp only[ci]
  lia
 ·obtain⟨k,hk,rfl⟩:=jN ht
  intro e
  have e':xs.getD (pk xs.length k) 0=xs.getD k 0:=Int.ofNat.inj e
  rw[cY (mI hk),cY hk] at e'
  have:=lJ nd (mI hk) hk e'
  unfold pk at this
  split at this <;> lia
 ·rw[iN,nI,(wX xs).count_eq,wW]
theorem mJ{n:Nat}{ts us:Ts}(P:Pre n ts)(Q:Pre n us)(hd:∀t∈us,t∉ts)(hm:∀h:Int,(ts.filter fun t=>decide (t.1=h)).length+(us.filter fun t=>decide (t.1=h)).length≤8):Pre n (ts++us):=by
 refine⟨List.nodup_append.mpr ⟨P.nd,Q.nd,fun a ha b hb e=>hd b hb (e ▸ ha)⟩,fun t ht=>?_,fun t ht=>?_,fun h=>?_,fun h=>?_⟩
 ·rcases List.mem_append.mp ht with z|z
  ·exact P.rg t z
  ·exact Q.rg t z
 ·rcases List.mem_append.mp ht with z|z
  ·exact P.ne t z
  ·exact Q.ne t z
 ·rw[List.filter_append,List.filter_append,List.length_append,List.length_append,P.bal,Q.bal]
 ·rw[List.filter_append,List.length_append];exact hm h
theorem aAY{n:Nat}{ts:Ts}{xs:List Nat}(P:Pre n ts)(nd:xs.Nodup)(lt:∀x∈xs,x<n)(c2:2≤xs.length)(hf:∀t∈cyc xs,(ts.filter fun u=>decide (u.1=t.1)).length≤7)(hn:∀t∈cyc xs,t∉ts):Pre n (ts++cyc xs):=by
 obtain⟨Q,one⟩:=pQ nd lt c2
 refine mJ P Q hn fun h=>?_
 by_cases z:(cyc xs).filter (fun t=>decide (t.1=h))=[]
 ·rw[z];simpa using P.most h
 ·obtain⟨t,ht⟩:=List.exists_mem_of_ne_nil _ z
  obtain⟨h1,h2⟩:=List.mem_filter.mp ht
  have e:t.1=h:=by simpa using h2
  have a:=hf t h1
  rw[e] at a
  have:=one h
  lia
theorem aCu{xs:List Nat}{k:Nat}(hk:k<xs.length):T (cyc xs) (xs.getD (pk xs.length k) 0) (xs.getD k 0):=List.mem_map.mpr ⟨k,List.mem_range.mpr hk,rfl⟩
theorem tO{xs:List Nat}(i:Nat):∀ (d:Nat),i+d<xs.length→Walk (cyc xs) d (xs.getD i 0) (xs.getD (i+d) 0)
 |0,_=>rfl
 |d+1,h=>by
  refine⟨_,tO i d (by lia),?_⟩
  have:=aCu (xs:=xs) (k:=i+(d+1)) h
  unfold pk at this
  rw[if_neg (by lia)] at this
  exact this
theorem rE{n:Nat}{xs:List Nat}(n1:2≤n)(n2:n≤32)(pm:xs.Perm (List.range n)):Fine n (cyc xs):=by
 have hl:xs.length=n:=by rw[pm.length_eq,List.length_range]
 have nd:xs.Nodup:=pm.nodup_iff.mpr List.nodup_range
 have lt:∀x∈xs,x<n:=fun x hx=>List.mem_range.mp (pm.mem_iff.mp hx)
 refine(pQ nd lt (by lia)).1.fine n1 n2 fun a b ha hb=>?_
 obtain⟨i,hi,ei⟩:=List.mem_iff_getElem.mp (pm.mem_iff.mpr (List.mem_range.mpr ha))
 obtain⟨j,hj,ej⟩:=List.mem_iff_getElem.mp (pm.mem_iff.mpr (List.mem_range.mpr hb))
 have w1:=tO (xs:=xs) i (xs.length-1-i) (by lia)
 have t0:=aCu (xs:=xs) (k:=0) (by lia)
 have w3:=tO (xs:=xs) 0 j (by lia)
 rw[show i+(xs.length-1-i)=xs.length-1 by lia] at w1
 rw[show pk xs.length 0=xs.length-1 from rfl] at t0
 rw[Nat.zero_add] at w3
 have w:=w1.trans (Walk.cons t0 w3)
 rw[cY hi,cY hj,ei,ej] at w
 exact⟨_,w⟩
theorem oO:∀ (hs:List Nat) (ts:Ts),hs.Nodup→(∀h∈hs,8≤(ts.filter fun t=>decide (t.1=ci h)).length)→8*hs.length≤ts.length
 |[],_,_,_=>by simp
 |h::hs,ts,nd,hf=>by
  obtain⟨h1,h2⟩:=List.nodup_cons.mp nd
  have e:ts.length=(ts.filter fun t=>decide (t.1=ci h)).length+(ts.filter fun t=>!decide (t.1=ci h)).length:=by
   clear hf
   induction ts with
   |nil=>rfl
   |cons x xs ih2=>by_cases q:x.1=ci h <;> simp[List.filter_cons,q] <;> lia
  have a:=hf h List.mem_cons_self
  have ih:=oO hs (ts.filter fun t=>!decide (t.1=ci h)) h2 fun x hx=>by
   refine Nat.le_trans (hf x (List.mem_cons_of_mem _ hx)) (Nat.le_of_eq ?_)
   rw[List.filter_filter]
   congr 1
   refine List.filter_congr fun t _=>?_
   by_cases q:t.1=ci x
   ·have:¬ t.1=ci h:=fun z=>h1 (by have:=Int.ofNat.inj (z.symm.trans q);exact this ▸ hx)
    simp[q]
    rw[q] at this
    exact this
   ·simp[q]
  rw[List.length_cons]
  lia
structure Tree(n:Nat)(os:List Nat)(k:Nat)(ts:Ts):Prop where
 pre:Pre n ts
 ends:∀t∈ts,∃a b,a∈os.take k∧b∈os.take k∧t=(ci a,ci b)
 con:∀a b,a∈os.take k→b∈os.take k→∃j,Walk ts j a b
 len:ts.length+2=2*k
theorem Tree.start{n:Nat}{os:List Nat}(h:0<os.length):Tree n os 1 []:=by
 refine⟨⟨List.nodup_nil,(fun t h=>nomatch h),(fun t h=>nomatch h),fun h=>rfl,fun h=>by simp⟩,(fun t h=>nomatch h),fun a b ha hb=>?_,rfl⟩
 cases os with
 |nil=>simp at h
 |cons o os=>
  simp at ha hb
  exact⟨0,by rw[ha,hb];rfl⟩
theorem Tree.free{n:Nat}{os:List Nat}{k:Nat}{ts:Ts}(T:Tree n os k ts)(nd:os.Nodup)(hk:k≤os.length):∃h∈os.take k,(ts.filter fun t=>decide (t.1=ci h)).length<8:=by
 apply Classical.byContradiction
 intro hno
 have:=oO (os.take k) ts (nd.sublist (List.take_sublist _ _)) fun h hh=>Classical.byContradiction fun z=>hno ⟨h,hh,by lia⟩
 have hl:=T.len
 rw[List.length_take,Nat.min_eq_left hk] at this
 lia
theorem Tree.add{n:Nat}{os:List Nat}{k s v:Nat}{ts:Ts}(Tr:Tree n os k ts)(nd:os.Nodup)(lt:∀x∈os,x<n)(hv:os[k]?=some v)(hs:s∈os.take k)(hd:(ts.filter fun t=>decide (t.1=ci s)).length<8):Tree n os (k+1) (ts++[(ci s,ci v),(ci v,ci s)]):=by
 have tk:os.take (k+1)=os.take k++[v]:=by rw[List.take_add_one,hv];rfl
 have nd1:(os.take k++[v]).Nodup:=by rw[← tk];exact nd.sublist (List.take_sublist _ _)
 have vn:v∉os.take k:=fun z=>(List.nodup_append.mp nd1).2.2 v z v (by simp) rfl
 have sv:s≠v:=fun e=>vn (e ▸ hs)
 have vm:v∈os:=List.mem_of_getElem? hv
 have sl:=lt s (List.mem_of_mem_take hs)
 have vl:=lt v vm
 have nov:∀t∈ts,t.1≠ci v∧t.2≠ci v:=fun t ht=>by
  obtain⟨a,b,ha,hb,rfl⟩:=Tr.ends t ht
  exact⟨fun e=>vn (Int.ofNat.inj e ▸ ha),fun e=>vn (Int.ofNat.inj e ▸ hb)⟩
 have Q:Pre n [(ci s,ci v),(ci v,ci s)]:=by
  have svi:ci s≠ci v:=fun e=>sv (Int.ofNat.inj e)
  refine⟨?_,fun t ht=>?_,fun t ht=>?_,fun h=>?_,fun h=>Nat.le_trans (List.length_filter_le _ _) (by simp)⟩
  ·simp[svi]
  ·simp at ht
   rcases ht with rfl|rfl <;> (simp only[ci];lia)
  ·simp at ht
   rcases ht with rfl|rfl
   ·exact svi
   ·exact svi.symm
  ·by_cases a:ci s=h <;> by_cases b:ci v=h <;> simp[List.filter_cons,a,b]
 have P2:Pre n (ts++[(ci s,ci v),(ci v,ci s)]):=by
  refine mJ Tr.pre Q (fun t ht z=>?_) fun h=>?_
  ·simp at ht
   rcases ht with rfl|rfl
   ·exact(nov _ z).2 rfl
   ·exact(nov _ z).1 rfl
  ·have svi:ci s≠ci v:=fun e=>sv (Int.ofNat.inj e)
   by_cases a:ci s=h
   ·subst a
    have b:¬ ci v=ci s:=svi.symm
    simp only[List.filter_cons,decide_true,if_true,decide_eq_false b]
    simp
    lia
   ·by_cases b:ci v=h
    ·subst b
     have z:ts.filter (fun t=>decide (t.1=ci v))=[]:=List.filter_eq_nil_iff.mpr fun t ht=>by simpa using (nov t ht).1
     rw[z]
     exact Nat.le_trans (Nat.add_le_add_left (List.length_filter_le _ _) _) (by simp)
    ·have:=Tr.pre.most h
     simp[List.filter_cons,a,b]
     exact this
 have up:∀t∈ts,t∈ts++[(ci s,ci v),(ci v,ci s)]:=fun t ht=>List.mem_append_left _ ht
 have t1:T (ts++[(ci s,ci v),(ci v,ci s)]) s v:=List.mem_append_right _ (by simp)
 have t2:T (ts++[(ci s,ci v),(ci v,ci s)]) v s:=List.mem_append_right _ (by simp)
 have toS:∀a,a∈os.take k++[v]→∃j,Walk (ts++[(ci s,ci v),(ci v,ci s)]) j a s:=fun a ha=>by
  rcases List.mem_append.mp ha with z|z
  ·obtain⟨j,w⟩:=Tr.con a s z hs
   exact⟨j,w.mono up⟩
  ·simp at z;subst z;exact⟨1,Walk.one t2⟩
 have ofS:∀b,b∈os.take k++[v]→∃j,Walk (ts++[(ci s,ci v),(ci v,ci s)]) j s b:=fun b hb=>by
  rcases List.mem_append.mp hb with z|z
  ·obtain⟨j,w⟩:=Tr.con s b hs z
   exact⟨j,w.mono up⟩
  ·simp at z;subst z;exact⟨1,Walk.one t1⟩
 refine⟨P2,fun t ht=>?_,fun a b ha hb=>?_,?_⟩
 ·rw[tk]
  rcases List.mem_append.mp ht with z|z
  ·obtain⟨a,b,ha,hb,e⟩:=Tr.ends t z
   exact⟨a,b,List.mem_append_left _ ha,List.mem_append_left _ hb,e⟩
  ·simp at z
   rcases z with rfl|rfl
   ·exact⟨s,v,List.mem_append_left _ hs,by simp,rfl⟩
   ·exact⟨v,s,by simp,List.mem_append_left _ hs,rfl⟩
 ·rw[tk] at ha hb
  obtain⟨i,w1⟩:=toS a ha
  obtain⟨j,w2⟩:=ofS b hb
  exact⟨i+j,w1.trans w2⟩
 ·have:=Tr.len
  rw[List.length_append]
  simp
  lia
theorem Tree.fine{n:Nat}{os:List Nat}{ts:Ts}(Tr:Tree n os n ts)(n1:2≤n)(n2:n≤32)(pm:os.Perm (List.range n)):Fine n ts:=by
 have hl:os.length=n:=by rw[pm.length_eq,List.length_range]
 refine Tr.pre.fine n1 n2 fun a b ha hb=>Tr.con a b ?_ ?_
 ·rw[List.take_of_length_le (by lia)];exact pm.mem_iff.mpr (List.mem_range.mpr ha)
 ·rw[List.take_of_length_le (by lia)];exact pm.mem_iff.mpr (List.mem_range.mpr hb)
end NetM
namespace NetM
theorem oP{n:Nat}{ts:Ts}{h:Nat}(hh:h<n):(outN n ts h).Nodup:=(mW hh).imp fun {a b} hab e=>by subst e;lia
end NetM
namespace L2
open PySem PySem.Spec PyProof.Rows
section
variable {X:Cx}
theorem tP:∀ {ns:List Int} {its:List Value},Vals (ns.map V.int) its→∃xs:List (Int×Tok),its=xs.map (fun p=>Value.int p.1 p.2)∧xs.map (·.1)=ns
 |[],_,r=>by cases r;exact⟨[],rfl,rfl⟩
 |n::ns,_,r=>by
  cases r with
  |cons r rr=>
   obtain⟨t,rfl⟩:=(show ∃t,_=Value.int n t from r)
   obtain⟨xs,rfl,e⟩:=tP rr
   exact⟨(n,t)::xs,rfl,by rw[List.map_cons,e]⟩
def aEK(K:PySem.W.Frag):List V→Hp→VK→Prop:=fun xs H Q=>∃ (l:Addr) (ns:List Int),xs=[.ref l]∧SqL K H l (ns.map V.int)∧ns≠[]∧∀M,M∈ns→(∀a∈ns,a≤M)→Q (.int M) H
theorem lK (hc : X.calm = true) : cW X (.builtin "max") (aEK X.K) := by
  intro pins s σ H xs us Q I r h
  obtain ⟨l, ns, rfl, hl, hne, q⟩ := h
  obtain ⟨u1, rfl, r1⟩ := r.one
  obtain rfl : u1 = Value.ref l := r1
  obtain ⟨its, rv, pl, _⟩ := I.list hl
  obtain ⟨ps, rfl, rfl⟩ := tP rv
  have hi : intItems ps.toArray = (ps.map (fun p => Value.int p.1 p.2)).toArray := by unfold intItems; simp
  have hsz : 0 < ps.toArray.size := by
    cases ps with
    | nil => exact absurd rfl hne
    | cons p ps => simp
  refine max_intList (I.ok.hd hc) (xs := ps.toArray) (by rw [hi]; exact pl.isList) hsz fun v h' tk hv hk => ?_
  obtain ⟨t, rfl⟩ := intItems_at hv
  obtain ⟨h1, h2⟩ := argBest_gt (numAt ps.toArray) (ps.toArray.size - 1)
  have num : ∀ j, j < ps.length → numAt ps.toArray j ∈ ps.map (·.1) ∧ numAt ps.toArray j = (ps.map (·.1)).getD j 0 := fun j hj => by
    have e : numAt ps.toArray j = ps[j].1 := by unfold numAt; simp [List.getElem?_eq_getElem hj]
    refine ⟨by rw [e]; exact List.mem_map.mpr ⟨_, List.getElem_mem hj, rfl⟩, ?_⟩
    rw [e, List.getD_eq_getElem?_getD, List.getElem?_map, List.getElem?_eq_getElem hj]; rfl
  have hb : argBest (fun i j => decide (numAt ps.toArray i > numAt ps.toArray j)) (ps.toArray.size - 1) < ps.length := by
    have : ps.toArray.size = ps.length := by simp
    lia
  refine ⟨.int _, H, I.kept (t' := tk) hk, ⟨t, rfl⟩, q _ (num _ hb).1 fun a ha => ?_⟩
  obtain ⟨j, hj, e⟩ := List.mem_iff_getElem.mp ha
  rw [List.length_map] at hj
  have := h2 j (by have : ps.toArray.size = ps.length := by simp
                   lia)
  rw [(num j hj).2, List.getD_eq_getElem?_getD, List.getElem?_eq_getElem (by rw [List.length_map]; exact hj)] at this
  rw [← e]
  exact this
end
end L2
namespace NetM
abbrev swp(u:Int×Int):Int×Int:=(u.2,u.1)
def dbl(ps:Ts):Ts:=ps.flatMap fun u=>[u,swp u]
theorem hV{ps qs:Ts}:dbl (ps++qs)=dbl ps++dbl qs:=List.flatMap_append
theorem eX:∀ {ps:Ts},(dbl ps).Perm (ps++ps.map swp)
 |[]=>List.Perm.refl _
 |u::ps=>by
  have ih:=eX (ps:=ps)
  show (u::swp u::dbl ps).Perm (u::(ps++swp u::ps.map swp))
  refine List.Perm.cons _ ?_
  exact(ih.cons _).trans List.perm_middle.symm
theorem fU:∀ {ps:Ts},(dbl ps).length=2*ps.length
 |[]=>rfl
 |u::ps=>by
  have ih:=fU (ps:=ps)
  show (dbl ps).length+2=2*(ps.length+1)
  lia
theorem wY{ps:Ts}{u:Int×Int}(h:u∈dbl ps):swp u∈dbl ps:=by
 obtain⟨v,hv,hu⟩:=List.mem_flatMap.mp h
 refine List.mem_flatMap.mpr ⟨v,hv,?_⟩
 rcases List.mem_cons.mp hu with e|e
 ·rw[e];exact List.mem_cons_of_mem _ (List.mem_singleton.mpr rfl)
 ·rw[List.mem_singleton.mp e];exact List.mem_cons_self
theorem jO{ps:Ts}{u:Int×Int}:u∈dbl ps↔u∈ps∨swp u∈ps:=by
 rw[(eX (ps:=ps)).mem_iff,List.mem_append]
 refine or_congr Iff.rfl ⟨fun h=>?_,fun h=>List.mem_map.mpr ⟨_,h,rfl⟩⟩
 obtain⟨v,hv,rfl⟩:=List.mem_map.mp h
 exact hv
theorem wZ{ps:Ts}:((dbl ps).map swp).Perm (dbl ps):=by
 refine((eX (ps:=ps)).map swp).trans (List.Perm.trans ?_ (eX (ps:=ps)).symm)
 rw[List.map_append,List.map_map]
 have e:ps.map (swp ∘ swp)=ps:=(List.map_congr_left fun u _=>rfl).trans (List.map_id ps)
 rw[e]
 exact List.perm_append_comm
def memB(x:Nat):List Nat→Bool
 |[]=>false
 |y::ys=>Nat.beq x y||memB x ys
theorem nJ{x:Nat}:∀ {ys:List Nat},memB x ys=true↔x∈ys
 |[]=>by simp[memB]
 |y::ys=>by
  unfold memB
  rw[Bool.or_eq_true,nJ (ys:=ys),List.mem_cons]
  exact or_congr ⟨fun h=>Nat.eq_of_beq_eq_true h,fun h=>by rw[h];exact Nat.beq_refl y⟩ Iff.rfl
def ndB:List Nat→Bool
 |[]=>true
 |x::xs=>!memB x xs&&ndB xs
theorem aAZ:∀ {xs:List Nat},ndB xs=true→xs.Nodup
 |[],_=>List.nodup_nil
 |x::xs,h=>by
  unfold ndB at h
  rw[Bool.and_eq_true] at h
  refine List.nodup_cons.mpr ⟨fun z=>?_,aAZ h.2⟩
  rw[nJ.mpr z] at h
  exact absurd h.1 (by decide)
def inc:List Nat→Bool
 |x::y::r=>Nat.ble x y&&inc (y::r)
 |_=>true
theorem aA0:∀ {xs:List Nat},inc xs=true→xs.Pairwise (·≤·)
 |[],_=>List.Pairwise.nil
 |[x],_=>List.pairwise_singleton _ _
 |x::y::r,h=>by
  unfold inc at h
  rw[Bool.and_eq_true] at h
  have ih:=aA0 h.2
  refine List.pairwise_cons.mpr ⟨fun z hz=>?_,ih⟩
  have h1:=Nat.le_of_ble_eq_true h.1
  rcases List.mem_cons.mp hz with e|e
  ·rw[e];exact h1
  ·exact Nat.le_trans h1 ((List.pairwise_cons.mp ih).1 z e)
abbrev ci2(q:Nat×Nat):Int×Int:=((q.1:Int),(q.2:Int))
def cds(qs:List (Nat×Nat)):List Nat:=qs.flatMap fun q=>[64*q.1+q.2,64*q.2+q.1]
def dec(c:Nat):Int×Int:=(((c / 64:Nat):Int),((c % 64:Nat):Int))
theorem tQ{a b:Nat}(h:b<64):dec (64*a+b)=((a:Int),(b:Int)):=by
 unfold dec
 rw[show (64*a+b) / 64=a by lia,show (64*a+b) % 64=b by lia]
theorem mK:∀ {qs:List (Nat×Nat)},(∀q∈qs,q.1<64∧q.2<64)→(cds qs).map dec=dbl (qs.map ci2)
 |[],_=>rfl
 |q::qs,h=>by
  have ih:=mK (qs:=qs) fun x hx=>h x (List.mem_cons_of_mem _ hx)
  obtain⟨h1,h2⟩:=h q List.mem_cons_self
  show dec (64*q.1+q.2)::dec (64*q.2+q.1)::(cds qs).map dec=ci2 q::swp (ci2 q)::dbl (qs.map ci2)
  rw[ih,tQ h2,tQ h1]
def b1(b:Bool):Nat:=cond b 1 0
def cntB(h:Nat):List (Nat×Nat)→Nat
 |[]=>0
 |q::qs=>b1 (Nat.beq q.1 h)+(b1 (Nat.beq q.2 h)+cntB h qs)
theorem pR{h:Nat}:∀ {qs:List (Nat×Nat)},((dbl (qs.map ci2)).filter fun t=>decide (t.1=(h:Int))).length=cntB h qs
 |[]=>rfl
 |q::qs=>by
  have ih:=pR (h:=h) (qs:=qs)
  have e:∀a:Nat,(if decide ((a:Int)=(h:Int))=true then 1 else 0)=b1 (Nat.beq a h):=fun a=>by
   by_cases c:a=h
   ·subst c;rw[if_pos (by simp),Nat.beq_refl];rfl
   ·rw[if_neg (by simp;lia),show Nat.beq a h=false from Bool.eq_false_iff.mpr fun z=>c (Nat.eq_of_beq_eq_true z)];rfl
  show ((ci2 q::swp (ci2 q)::dbl (qs.map ci2)).filter _).length=b1 (Nat.beq q.1 h)+(b1 (Nat.beq q.2 h)+cntB h qs)
  rw[← ih,← e q.1,← e q.2,List.filter_cons,List.filter_cons]
  split <;> split <;> simp <;> lia
def yW(n:Nat)(qs:List (Nat×Nat)):Bool:=Nat.ble 2 n&&(Nat.ble n 32&&(ndB (cds qs)&&(qs.all (fun q=>Nat.blt q.1 n&&(Nat.blt q.2 n&&!Nat.beq q.1 q.2))&&((List.range n).all (fun h=>Nat.ble (cntB h qs) 8) &&
 (List.range n).all (fun v=>Nat.beq v 0||(List.range v).reverse.any (fun u=>memB (64*u+v) (cds qs)))))))
theorem iO{a b:Nat}(h:Nat.blt a b=true):a<b:=Nat.le_of_ble_eq_true h
theorem aBS{n:Nat}{qs:List (Nat×Nat)}(h:yW n qs=true):Fine n (dbl (qs.map ci2))∧∀q∈qs,q.1<64∧q.2<64:=by
 unfold yW at h
 simp only[Bool.and_eq_true,List.all_eq_true,List.mem_range,Bool.or_eq_true,List.any_eq_true,List.mem_reverse] at h
 obtain⟨h1,h2,h3,h4,h5,h6⟩:=h
 have h1:=Nat.le_of_ble_eq_true h1
 have h2:=Nat.le_of_ble_eq_true h2
 have q64:∀q∈qs,q.1<64∧q.2<64:=fun q hq=>⟨by have:=iO (h4 q hq).1;lia,by have:=iO (h4 q hq).2.1;lia⟩
 have mem:∀t∈dbl (qs.map ci2),∃q∈qs,t=ci2 q∨t=swp (ci2 q):=fun t ht=>by
  rcases jO.mp ht with z|z
  ·obtain⟨q,hq,e⟩:=List.mem_map.mp z;exact⟨q,hq,.inl e.symm⟩
  ·obtain⟨q,hq,e⟩:=List.mem_map.mp z;exact⟨q,hq,.inr (by rw[e])⟩
 have rg:∀t∈dbl (qs.map ci2),((0≤t.1∧t.1<n)∧(0≤t.2∧t.2<n))∧t.1≠t.2:=fun t ht=>by
  obtain⟨q,hq,e⟩:=mem t ht
  have a:=iO (h4 q hq).1
  have b:=iO (h4 q hq).2.1
  have c:q.1≠q.2:=fun z=>by have:=(h4 q hq).2.2;rw[z,Nat.beq_refl] at this;exact absurd this (by decide)
  rcases e with rfl|rfl
  ·exact⟨⟨⟨by show (0:Int)≤(q.1:Int);lia,by show (q.1:Int)<n;lia⟩,by show (0:Int)≤(q.2:Int);lia,by show (q.2:Int)<n;lia⟩,by show ((q.1:Nat):Int)≠(q.2:Nat);lia⟩
  ·exact⟨⟨⟨by show (0:Int)≤(q.2:Int);lia,by show (q.2:Int)<n;lia⟩,by show (0:Int)≤(q.1:Int);lia,by show (q.1:Int)<n;lia⟩,by show ((q.2:Nat):Int)≠(q.1:Nat);lia⟩
 have bal:∀h:Int,((dbl (qs.map ci2)).filter fun t=>decide (t.1=h)).length=((dbl (qs.map ci2)).filter fun t=>decide (t.2=h)).length:=fun h=>by
  rw[← (wZ (ps:=qs.map ci2)).filter (fun t=>decide (t.1=h)) |>.length_eq,List.filter_map,List.length_map]
  rfl
 have nd:(dbl (qs.map ci2)).Nodup:=by
  rw[← mK q64]
  refine List.Pairwise.map _ (fun a b hab e=>hab ?_) (List.nodup_iff_pairwise_ne.mp (aAZ h3))
  have e1:a / 64=b / 64:=Int.ofNat.inj (congrArg Prod.fst e)
  have e2:a % 64=b % 64:=Int.ofNat.inj (congrArg Prod.snd e)
  lia
 refine⟨⟨h1,h2,nd,fun t ht=>(rg t ht).1,fun t ht=>(rg t ht).2,bal,fun h=>?_,fun a b ha hb=>?_⟩,q64⟩
 ·by_cases c:0≤h∧h<n
  ·have:=Nat.le_of_ble_eq_true (h5 h.toNat (by lia))
   rw[← pR,Int.toNat_of_nonneg c.1] at this
   exact this
  ·have e:(dbl (qs.map ci2)).filter (fun t=>decide (t.1=h))=[]:=List.filter_eq_nil_iff.mpr fun t ht e=>c ((show t.1=h from of_decide_eq_true e) ▸ (rg t ht).1.1)
   rw[e];exact Nat.zero_le _
 ·have both:∀v,v<n→(∃k,Walk (dbl (qs.map ci2)) k 0 v)∧∃k,Walk (dbl (qs.map ci2)) k v 0:=by
   intro v
   induction v using Nat.strongRecOn with
   |ind v ih=>
    intro hv
    rcases h6 v hv with e|⟨u,hu,t1⟩
    ·have e:=Nat.eq_of_beq_eq_true e
     subst e;exact⟨⟨0,rfl⟩,0,rfl⟩
    ·obtain⟨⟨k,w⟩,l,w'⟩:=ih u hu (by lia)
     have t:T (dbl (qs.map ci2)) u v:=by
      have:=List.mem_map.mpr ⟨_,nJ.mp t1,tQ (a:=u) (b:=v) (by lia)⟩
      rw[mK q64] at this
      exact this
     have t':T (dbl (qs.map ci2)) v u:=wY t
     exact⟨⟨k+1,u,w,t⟩,l+1,Walk.cons t' w'⟩
  obtain⟨_,k,w⟩:=both a ha
  obtain⟨⟨l,w'⟩,_⟩:=both b hb
  exact⟨_,w.trans w'⟩
def lL(f b:Nat):List (Nat×Nat):=(List.range f).flatMap fun at_=>(List.range (b ^ f)).flatMap fun h=>(List.range (b-h / b ^ at_ % b-1)).map fun k=>(h,h+(k+1)*b ^ at_)
def figs(f b h:Nat):List Nat:=(List.range f).map fun k=>h / b ^ k % b
def unl(f b o p:Nat):Nat:=((List.range f).filter fun k=>!Nat.beq ((figs f b o).getD k 0) ((figs f b p).getD k 0)).length
def tR(f b:Nat):List Nat:=(List.range (b ^ f)).flatMap fun o=>((List.range (b ^ f)).filter fun p=>Nat.beq (unl f b o p) 1).map fun p=>64*o+p
def tS(f b:Nat):Ts:=(tR f b).map dec
def xA(f b:Nat):Bool:=yW (b ^ f) (lL f b)&&((cds (lL f b)).isPerm (tR f b)&&inc (tR f b))
theorem yX:(List.range 6).all (fun f=>(List.range 6).all fun b=>Nat.blt f 1||(Nat.blt b 2||(Nat.blt 32 (b ^ f)||xA f b)))=true:=by decide +kernel
theorem yY{f b:Nat}(f1:1≤f)(f2:f≤5)(b1:2≤b)(b2:b≤5)(hm:b ^ f≤32):Fine (b ^ f) (dbl ((lL f b).map ci2))∧(dbl ((lL f b).map ci2)).Perm (tS f b)∧(tS f b).Pairwise (fun u v=>64*u.1+u.2≤64*v.1+v.2):=by
 have:=List.all_eq_true.mp (List.all_eq_true.mp yX f (List.mem_range.mpr (by lia))) b (List.mem_range.mpr (by lia))
 rw[Bool.or_eq_true,Bool.or_eq_true,Bool.or_eq_true] at this
 rcases this with z|z|z|z
 ·have:=iO z;lia
 ·have:=iO z;lia
 ·have:=iO z;lia
 ·unfold xA at z
  rw[Bool.and_eq_true,Bool.and_eq_true] at z
  obtain⟨h1,h2,h3⟩:=z
  obtain⟨F,q64⟩:=aBS h1
  refine⟨F,?_,?_⟩
  ·rw[← mK q64]
   exact(List.isPerm_iff.mp h2).map dec
  ·unfold tS
   rw[List.pairwise_map]
   refine(aA0 h3).imp fun {a b} h=>?_
   unfold dec
   show 64*((a / 64:Nat):Int)+((a % 64:Nat):Int)≤64*((b / 64:Nat):Int)+((b % 64:Nat):Int)
   lia
end NetM
namespace NetM
def pr:List Nat→Nat
 |[]=>1
 |n::ns=>n*pr ns
def bxr(m st n:Nat):List (Nat×Nat):=((List.range m).filter fun h=>decide (h / st % n+1<n)).map fun h=>(h,h+st)
def bx(m:Nat):Nat→List Nat→List (Nat×Nat)
 |_,[]=>[]
 |st,n::ns=>bxr m st n++bx m (st*n) ns
def boxQ(ns:List Nat):List (Nat×Nat):=bx (pr ns) 1 ns
def UpS:Nat→List Nat→Nat→Nat→Prop
 |_,[],_,_=>False
 |st,n::ns,a,b=>(a / st % n+1<n∧b=a+st)∨UpS (st*n) ns a b
theorem xB{m st n:Nat}{q:Nat×Nat}:q∈bxr m st n↔q.1<m∧q.1 / st % n+1<n∧q.2=q.1+st:=by
 unfold bxr
 rw[List.mem_map]
 constructor
 ·rintro⟨h,hh,rfl⟩
  obtain⟨h1,h2⟩:=List.mem_filter.mp hh
  exact⟨List.mem_range.mp h1,of_decide_eq_true h2,rfl⟩
 ·rintro⟨h1,h2,h3⟩
  exact⟨q.1,List.mem_filter.mpr ⟨List.mem_range.mpr h1,decide_eq_true h2⟩,Prod.ext rfl h3.symm⟩
theorem oQ{m:Nat}{q:Nat×Nat}:∀ {ns:List Nat} {st:Nat},q∈bx m st ns↔q.1<m∧UpS st ns q.1 q.2
 |[],st=>⟨fun h=>(nomatch h),fun h=>h.2.elim⟩
 |n::ns,st=>by
  unfold bx UpS
  rw[List.mem_append,xB,oQ (ns:=ns)]
  constructor
  ·rintro(⟨a,b,c⟩|⟨a,b⟩)
   ·exact⟨a,.inl ⟨b,c⟩⟩
   ·exact⟨a,.inr b⟩
  ·rintro⟨a,⟨b,c⟩|b⟩
   ·exact .inl ⟨a,b,c⟩
   ·exact .inr ⟨a,b⟩
abbrev U(ns:List Nat):Nat→Nat→Prop:=UpS 1 ns
theorem pS:∀ {ns:List Nat} {st a b:Nat},0<st→(∀n∈ns,0<n)→(UpS st ns a b↔a % st=b % st∧U ns (a / st) (b / st))
 |[],st,a,b,h,_=>⟨fun z=>z.elim,fun z=>z.2.elim⟩
 |n::ns,st,a,b,h,hn=>by
  have hn0:=hn n List.mem_cons_self
  have hns:∀n∈ns,0<n:=fun x hx=>hn x (List.mem_cons_of_mem _ hx)
  show (_∨UpS (st*n) ns a b)↔a % st=b % st∧(_∨UpS (1*n) ns (a / st) (b / st))
  rw[Nat.one_mul,pS (Nat.mul_pos h hn0) hns,pS hn0 hns,Nat.div_one,Nat.div_div_eq_div_mul a st n,Nat.div_div_eq_div_mul b st n,Nat.mod_mul,Nat.mod_mul]
  have e1:=Nat.div_add_mod a st
  have e2:=Nat.div_add_mod b st
  constructor
  ·rintro(⟨c,rfl⟩|⟨c,d⟩)
   ·refine⟨by rw[Nat.add_mod_right],.inl ⟨c,by rw[Nat.add_div_right _ h]⟩⟩
   ·have m1:a % st=b % st:=by
     have:=congrArg (· % st) c
     simp only[Nat.add_mul_mod_self_left,Nat.mod_mod] at this
     exact this
    refine⟨m1,.inr ⟨?_,d⟩⟩
    rw[m1] at c
    exact Nat.eq_of_mul_eq_mul_left h (Nat.add_left_cancel c)
  ·rintro⟨m1,⟨c,d⟩|⟨c,d⟩⟩
   ·refine .inl ⟨c,?_⟩
    rw[← e2,d,← m1,Nat.mul_add,Nat.mul_one,Nat.add_right_comm,e1]
   ·exact .inr ⟨by rw[m1,c],d⟩
theorem tT{n:Nat}{ns:List Nat}{a b:Nat}(h:∀x∈n::ns,0<x):U (n::ns) a b↔(a % n+1<n∧b=a+1)∨(a % n=b % n∧U ns (a / n) (b / n)):=by
 show (_∨UpS (1*n) ns a b)↔_
 rw[Nat.one_mul,pS (h n List.mem_cons_self) fun x hx=>h x (List.mem_cons_of_mem _ hx),Nat.div_one]
theorem yZ{a n:Nat}(h:a % n+1<n):(a+1) / n=a / n∧(a+1) % n=a % n+1:=by
 have e:=Nat.div_add_mod a n
 have e2:a+1=n*(a / n)+(a % n+1):=by lia
 have hn:0<n:=by lia
 rw[e2,Nat.mul_add_div hn,Nat.mul_add_mod,Nat.div_eq_of_lt h,Nat.mod_eq_of_lt h]
 exact⟨rfl,rfl⟩
theorem u_lt:∀ {ns:List Nat} {a b:Nat},(∀x∈ns,0<x)→U ns a b→a<pr ns→a<b∧b<pr ns
 |[],a,b,_,h,_=>h.elim
 |n::ns,a,b,hn,h,ha=>by
  have hn0:=hn n List.mem_cons_self
  have hns:∀n∈ns,0<n:=fun x hx=>hn x (List.mem_cons_of_mem _ hx)
  have ha':a<n*pr ns:=ha
  have hq:a / n<pr ns:=Nat.div_lt_of_lt_mul ha'
  show a<b∧b<n*pr ns
  rcases(tT hn).mp h with ⟨c,rfl⟩|⟨c,d⟩
  ·refine⟨by lia,?_⟩
   have e:=Nat.div_add_mod a n
   have:=Nat.mul_le_mul_left n hq
   rw[Nat.succ_eq_add_one,Nat.mul_add,Nat.mul_one] at this
   lia
  ·obtain⟨i1,i2⟩:=u_lt hns d hq
   refine⟨?_,?_⟩
   ·have e1:=Nat.div_add_mod a n
    have e2:=Nat.div_add_mod b n
    have:=Nat.mul_lt_mul_of_pos_left i1 hn0
    lia
   ·have e2:=Nat.div_add_mod b n
    have hm:=Nat.mod_lt b hn0
    have:=Nat.mul_le_mul_left n i2
    rw[Nat.succ_eq_add_one,Nat.mul_add,Nat.mul_one] at this
    lia
theorem aA1:∀ {ns:List Nat} {v:Nat},(∀x∈ns,0<x)→0<v→v<pr ns→∃u,u<v∧U ns u v
 |[],v,_,h1,h2=>by have h2:v<1:=h2;lia
 |n::ns,v,hn,h1,h2=>by
  have hn0:=hn n List.mem_cons_self
  have hns:∀n∈ns,0<n:=fun x hx=>hn x (List.mem_cons_of_mem _ hx)
  have lv:=Nat.mod_lt v hn0
  have ev:=Nat.div_add_mod v n
  by_cases c:v % n=0
  ·have hq:0<v / n:=by
    rcases Nat.eq_zero_or_pos (v / n) with z|z
    ·rw[z,c] at ev;simp at ev;lia
    ·exact z
   obtain⟨u,hu,uu⟩:=aA1 (v:=v / n) hns hq (Nat.div_lt_of_lt_mul h2)
   refine⟨n*u,?_,(tT hn).mpr (.inr ⟨by rw[Nat.mul_mod_right,c],by rw[Nat.mul_div_cancel_left _ hn0];exact uu⟩)⟩
   have:=Nat.mul_lt_mul_of_pos_left hu hn0
   lia
  ·have hv:v-1=n*(v / n)+(v % n-1):=by lia
   have hm:(v-1) % n=v % n-1:=by rw[hv,Nat.mul_add_mod,Nat.mod_eq_of_lt (by lia)]
   exact⟨v-1,by lia,(tT hn).mpr (.inl ⟨by lia,by lia⟩)⟩
end NetM
namespace NetM
theorem xC:∀ {ns:List Nat} {st a b:Nat},(∀x∈ns,0<x)→UpS st ns a b→a+st≤b
 |[],st,a,b,_,h=>h.elim
 |n::ns,st,a,b,hn,h=>by
  rcases h with ⟨_,rfl⟩|h
  ·exact Nat.le_refl _
  ·have:=xC (fun x hx=>hn x (List.mem_cons_of_mem _ hx)) h
   have h1:=Nat.le_mul_of_pos_right st (hn n List.mem_cons_self)
   lia
theorem aA2{m st n:Nat}:(bxr m st n).Nodup:=by
 unfold bxr
 refine List.nodup_iff_pairwise_ne.mpr (List.pairwise_map.mpr ?_)
 exact(List.nodup_iff_pairwise_ne.mp (List.nodup_range.sublist List.filter_sublist)).imp fun {a b} h e=>h (congrArg Prod.fst e)
theorem tU{m:Nat}:∀ {ns:List Nat} {st:Nat},0<st→(∀x∈ns,2≤x)→(bx m st ns).Nodup
 |[],_,_,_=>List.nodup_nil
 |n::ns,st,h,hn=>by
  have hn2:=hn n List.mem_cons_self
  have hns:∀x∈ns,2≤x:=fun x hx=>hn x (List.mem_cons_of_mem _ hx)
  refine List.nodup_append.mpr ⟨aA2,tU (Nat.mul_pos h (by lia)) hns,fun x hx y hy e=>?_⟩
  subst e
  have h1:=(xB.mp hx).2.2
  have h2:=xC (fun x hx=>by have:=hns x hx;lia) (oQ.mp hy).2
  have h3:=Nat.mul_le_mul_left st hn2
  lia
theorem aA3{ps:Ts}(nd:ps.Nodup)(h:∀u∈ps,u.1<u.2):(dbl ps).Nodup:=by
 refine(eX (ps:=ps)).nodup_iff.mpr (List.nodup_append.mpr ⟨nd,?_,fun x hx y hy e=>?_⟩)
 ·refine List.nodup_iff_pairwise_ne.mpr (List.pairwise_map.mpr ((List.nodup_iff_pairwise_ne.mp nd).imp fun {a b} hab e=>hab ?_))
  exact Prod.ext (congrArg Prod.snd e) (congrArg Prod.fst e)
 ·subst e
  obtain⟨u,hu,rfl⟩:=List.mem_map.mp hy
  have h1:=h _ hx
  have h2:=h u hu
  have h1:u.2<u.1:=h1
  lia
theorem aA4{qs:List (Nat×Nat)}(h:qs.Nodup):(qs.map ci2).Nodup:=by
 refine List.nodup_iff_pairwise_ne.mpr (List.pairwise_map.mpr ((List.nodup_iff_pairwise_ne.mp h).imp fun {a b} hab e=>hab ?_))
 exact Prod.ext (Int.ofNat.inj (congrArg Prod.fst e)) (Int.ofNat.inj (congrArg Prod.snd e))
theorem mY{h:Nat}:∀ {a b:List (Nat×Nat)},cntB h (a++b)=cntB h a+cntB h b
 |[],b=>by show cntB h b=0+_;lia
 |q::a,b=>by
  have:=mY (h:=h) (a:=a) (b:=b)
  show b1 _+(b1 _+cntB h (a++b))=b1 _+(b1 _+cntB h a)+cntB h b
  lia
theorem aCv{a b:Nat}:b1 (Nat.beq a b)=if a=b then 1 else 0:=by
 by_cases c:a=b
 ·subst c;rw[if_pos rfl,Nat.beq_refl];rfl
 ·rw[if_neg c,show Nat.beq a b=false from Bool.eq_false_iff.mpr fun z=>c (Nat.eq_of_beq_eq_true z)];rfl
theorem xD{h st:Nat}:∀ {L:List Nat},L.Nodup→cntB h (L.map fun x=>(x,x+st))≤(if h∈L then 1 else 0)+(if st≤h∧h-st∈L then 1 else 0)
 |[],_=>Nat.zero_le _
 |x::L,nd=>by
  obtain⟨n1,n2⟩:=List.nodup_cons.mp nd
  have ih:=xD (h:=h) (st:=st) n2
  show b1 (Nat.beq x h)+(b1 (Nat.beq (x+st) h)+cntB h (L.map fun x=>(x,x+st)))≤_
  rw[aCv,aCv]
  have e1:(if h∈x::L then 1 else 0)=(if x=h then 1 else 0)+(if h∈L then 1 else 0):=by
   by_cases c:x=h
   ·subst c;rw[if_pos List.mem_cons_self,if_pos rfl,if_neg n1]
   ·rw[if_neg c]
    by_cases d:h∈L
    ·rw[if_pos (List.mem_cons_of_mem _ d),if_pos d]
    ·rw[if_neg d,if_neg (fun z=>(List.mem_cons.mp z).elim (fun z=>c z.symm) d)]
  have e2:(if st≤h∧h-st∈x::L then 1 else 0)=(if x+st=h then 1 else 0)+(if st≤h∧h-st∈L then 1 else 0):=by
   by_cases c:x+st=h
   ·have e:h-st=x:=by lia
    rw[if_pos c,e,if_pos ⟨by lia,List.mem_cons_self⟩,if_neg (fun z=>n1 z.2)]
   ·rw[if_neg c]
    by_cases d:st≤h∧h-st∈L
    ·rw[if_pos d,if_pos ⟨d.1,List.mem_cons_of_mem _ d.2⟩]
    ·rw[if_neg d,if_neg]
     rintro⟨z1,z2⟩
     rcases List.mem_cons.mp z2 with z|z
     ·lia
     ·exact d ⟨z1,z⟩
  rw[e1,e2]
  lia
def wt:List Nat→Nat
 |[]=>0
 |n::ns=>(if n=2 then 1 else 2)+wt ns
theorem aC3{m st n h:Nat}(hs:0<st):cntB h (bxr m st n)≤if n=2 then 1 else 2:=by
 have c:=xD (h:=h) (st:=st) (L:=(List.range m).filter fun h=>decide (h / st % n+1<n)) (List.nodup_range.sublist List.filter_sublist)
 refine Nat.le_trans c ?_
 by_cases e:n=2
 ·rw[if_pos e]
  by_cases c1:h∈(List.range m).filter fun h=>decide (h / st % n+1<n)
  ·rw[if_pos c1,if_neg]
   ·lia
   ·rintro⟨z1,z2⟩
    have d1:h / st % n+1<n:=of_decide_eq_true (List.mem_filter.mp c1).2
    have d2:(h-st) / st % n+1<n:=of_decide_eq_true (List.mem_filter.mp z2).2
    have d3:h / st=(h-st) / st+1:=by
     have:=Nat.add_div_right (h-st) hs
     rw[show h-st+st=h by lia] at this
     exact this
    obtain⟨_,d4⟩:=yZ d2
    rw[← d3] at d4
    lia
  ·rw[if_neg c1];split <;> lia
 ·rw[if_neg e];split <;> split <;> lia
theorem aA5{m h:Nat}:∀ {ns:List Nat} {st:Nat},0<st→(∀x∈ns,0<x)→cntB h (bx m st ns)≤wt ns
 |[],_,_,_=>Nat.le_refl _
 |n::ns,st,hs,hn=>by
  show cntB h (bxr m st n++bx m (st*n) ns)≤_+wt ns
  rw[mY]
  have h1:=aC3 (m:=m) (n:=n) (h:=h) hs
  have h2:=aA5 (m:=m) (h:=h) (ns:=ns) (st:=st*n) (Nat.mul_pos hs (hn n List.mem_cons_self)) fun x hx=>hn x (List.mem_cons_of_mem _ hx)
  lia
theorem aA6:∀ {ns:List Nat},(∀x∈ns,2≤x)→3 ^ wt ns≤pr ns*pr ns
 |[],_=>Nat.le_refl _
 |n::ns,hn=>by
  have ih:=aA6 (ns:=ns) fun x hx=>hn x (List.mem_cons_of_mem _ hx)
  have h2:=hn n List.mem_cons_self
  show 3 ^ ((if n=2 then 1 else 2)+wt ns)≤n*pr ns*(n*pr ns)
  rw[Nat.pow_add,Nat.mul_mul_mul_comm]
  refine Nat.mul_le_mul ?_ ih
  by_cases c:n=2
  ·rw[if_pos c,c];decide
  ·rw[if_neg c]
   have:3≤n:=by lia
   exact Nat.mul_le_mul this this
theorem aEL{ns:List Nat}(hn:∀x∈ns,2≤x)(hp:pr ns≤32):wt ns≤8:=by
 refine Classical.byContradiction fun z=>?_
 have h1:3 ^ 9≤3 ^ wt ns:=Nat.pow_le_pow_right (by decide) (by lia)
 have h2:=aA6 hn
 have h3:pr ns*pr ns≤32*32:=Nat.mul_le_mul hp hp
 have h4:(3:Nat) ^ 9=19683:=by decide
 lia
theorem aBT{ns:List Nat}(hn:∀x∈ns,2≤x)(h0:ns≠[])(hp:pr ns≤32):Fine (pr ns) (dbl ((boxQ ns).map ci2)):=by
 have hpos:∀x∈ns,0<x:=fun x hx=>by have:=hn x hx;lia
 have q:∀q∈boxQ ns,q.1<q.2∧q.2<pr ns:=fun q hq=>by
  obtain⟨a,b⟩:=oQ.mp hq
  exact u_lt hpos b a
 have n1:2≤pr ns:=by
  cases ns with
  |nil=>exact absurd rfl h0
  |cons n ns=>
   have h2:=hn n List.mem_cons_self
   have:∀ {l:List Nat},(∀x∈l,2≤x)→1≤pr l:=fun {l}=>by
    induction l with
    |nil=>intro _;exact Nat.le_refl _
    |cons x l ih=>intro hl;exact Nat.mul_pos (by have:=hl x List.mem_cons_self;lia) (ih fun y hy=>hl y (List.mem_cons_of_mem _ hy))
   have h3:=this (l:=ns) fun x hx=>hn x (List.mem_cons_of_mem _ hx)
   show 2≤n*pr ns
   exact Nat.le_trans h2 (Nat.le_mul_of_pos_right n h3)
 have mem:∀t∈dbl ((boxQ ns).map ci2),∃q∈boxQ ns,t=ci2 q∨t=swp (ci2 q):=fun t ht=>by
  rcases jO.mp ht with z|z
  ·obtain⟨q,hq,e⟩:=List.mem_map.mp z;exact⟨q,hq,.inl e.symm⟩
  ·obtain⟨q,hq,e⟩:=List.mem_map.mp z;exact⟨q,hq,.inr (by rw[e])⟩
 have rg:∀t∈dbl ((boxQ ns).map ci2),((0≤t.1∧t.1<pr ns)∧(0≤t.2∧t.2<pr ns))∧t.1≠t.2:=fun t ht=>by
  obtain⟨p,hq,e⟩:=mem t ht
  obtain⟨a,b⟩:=q p hq
  rcases e with rfl|rfl
  ·exact⟨⟨⟨by show (0:Int)≤(p.1:Int);lia,by show (p.1:Int)<(pr ns:Int);lia⟩,by show (0:Int)≤(p.2:Int);lia,by show (p.2:Int)<(pr ns:Int);lia⟩,by show ((p.1:Nat):Int)≠(p.2:Nat);lia⟩
  ·exact⟨⟨⟨by show (0:Int)≤(p.2:Int);lia,by show (p.2:Int)<(pr ns:Int);lia⟩,by show (0:Int)≤(p.1:Int);lia,by show (p.1:Int)<(pr ns:Int);lia⟩,by show ((p.2:Nat):Int)≠(p.1:Nat);lia⟩
 have nd:(dbl ((boxQ ns).map ci2)).Nodup:=aA3 (aA4 (tU (by decide) hn)) fun u hu=>by
  obtain⟨p,hq,rfl⟩:=List.mem_map.mp hu
  have:=(q p hq).1
  show (p.1:Int)<(p.2:Int)
  lia
 refine⟨n1,hp,nd,fun t ht=>(rg t ht).1,fun t ht=>(rg t ht).2,fun h=>?_,fun h=>?_,fun a b ha hb=>?_⟩
 ·rw[← (wZ (ps:=(boxQ ns).map ci2)).filter (fun t=>decide (t.1=h)) |>.length_eq,List.filter_map,List.length_map]
  rfl
 ·by_cases c:0≤h∧h<pr ns
  ·have:=aA5 (m:=pr ns) (h:=h.toNat) (ns:=ns) (st:=1) (by decide) hpos
   have e:=pR (h:=h.toNat) (qs:=boxQ ns)
   rw[Int.toNat_of_nonneg c.1] at e
   rw[e]
   exact Nat.le_trans this (aEL hn hp)
  ·have e:(dbl ((boxQ ns).map ci2)).filter (fun t=>decide (t.1=h))=[]:=List.filter_eq_nil_iff.mpr fun t ht e=>c ((show t.1=h from of_decide_eq_true e) ▸ (rg t ht).1.1)
   rw[e];exact Nat.zero_le _
 ·have both:∀v,v<pr ns→(∃k,Walk (dbl ((boxQ ns).map ci2)) k 0 v)∧∃k,Walk (dbl ((boxQ ns).map ci2)) k v 0:=by
   intro v
   induction v using Nat.strongRecOn with
   |ind v ih=>
    intro hv
    rcases Nat.eq_zero_or_pos v with e|e
    ·subst e;exact⟨⟨0,rfl⟩,0,rfl⟩
    ·obtain⟨u,hu,uu⟩:=aA1 hpos e hv
     obtain⟨⟨k,w⟩,l,w'⟩:=ih u hu (by lia)
     have t:T (dbl ((boxQ ns).map ci2)) u v:=jO.mpr (.inl (List.mem_map.mpr ⟨(u,v),oQ.mpr ⟨by show u<pr ns;lia,uu⟩,rfl⟩))
     have t':T (dbl ((boxQ ns).map ci2)) v u:=wY t
     exact⟨⟨k+1,u,w,t⟩,l+1,Walk.cons t' w'⟩
  obtain⟨_,k,w⟩:=both a ha
  obtain⟨⟨l,w'⟩,_⟩:=both b hb
  exact⟨_,w.trans w'⟩
end NetM
namespace K12
open PySem L2
def top(i:Nat):Stmt:=PySem.Challenge.pw_neverwait_k24_led_about.main.body.getD i (.Pass ⟨0,0,0,0⟩)
abbrev tV:Stmt:=top 9
abbrev pT:Stmt:=top 10
abbrev tW:Stmt:=top 11
abbrev sRow:Stmt:=top 13
structure Bl(mg:Str→Option Value):Prop where
 isi:mg "isinstance"=none
 int:mg "int"=none
 bool:mg "bool"=none
 tup:mg "tuple"=none
 lst:mg "list"=none
 str:mg "str"=none
 set:mg "set"=none
 len:mg "len"=none
 range:mg "range"=none
 sorted:mg "sorted"=none
 any:mg "any"=none
 max:mg "max"=none
 min:mg "min"=none
 verr:mg "ValueError"=none
 all:mg "all"=none
def aBU(K:PySem.W.Frag)(H:Hp)(x:V):Prop:=∃t,TyX K H x t∧(PySem.W.kitOne K t (.type "int")=some false∨(PySem.W.kitOne K t (.type "int")=some true∧PySem.W.kitOne K t (.type "bool")=some true))
theorem vR{K:PySem.W.Frag}:PySem.W.kitOne K (.type "int") (.type "int")=some true:=by kernel_rfl
theorem tX{K:PySem.W.Frag}:PySem.W.kitOne K (.type "int") (.type "bool")=some false:=by kernel_rfl
inductive Wh (K:PySem.W.Frag) (H:Hp):V→Option Int→Prop where
 |int (i:Int):Wh K H (.int i) (some i)
 |no {x:V} (h:aBU K H x):Wh K H x none
def pU(K:PySem.W.Frag):Sp:=fun vs H Q _=>∃x o,vs=[x]∧Wh K H x o∧Q (.bl o.isSome) H
section
variable {P:Program} {w:World} {K:PySem.W.Frag} {mg:Str→Option Value} {base:Heap}
theorem aC4:aZ ["thing"] ["thing"] (aN tV):=⟨rfl,rfl,rfl,by decide +kernel,rfl,by decide +kernel,by decide +kernel⟩
theorem aBV{f:Addr}{fd:FuncData}(F:Fun K "is_whole" "is_whole" tV f fd)(B:Bl mg):FnOk P w K mg base CX0 1 f fd ["thing"] (pU K):=by
 refine F.ok aC4 (fun vs H Q E h=>?_) (fun cdv A outer s H vs Q E hr h=>?_)
 ·obtain⟨x,o,rfl,_⟩:=h
  rfl
 ·obtain⟨x,o,rfl,W,k⟩:=h
  refine⟨_,aJ (bA (jH (aS iK (by rfl) B.isi PyProof.Rows.boot_isinstance (aA (pv 0) (aA (jG (v:=.ty "int") rfl B.int PyProof.Rows.boot_int rfl) aD)))
   (kO (aDN (aS iK (by rfl) B.isi PyProof.Rows.boot_isinstance (aA (pv 0) (aA (jG (v:=.ty "bool") rfl B.bool PyProof.Rows.boot_bool rfl) aD))))))),?_⟩
  cases W with
  |int i=>
   refine⟨_,rfl,_,_,_,.type "int",true,rfl,⟨rfl,vR⟩,.of (.int _),true,rfl,?_⟩
   exact⟨_,rfl,_,_,_,.type "int",false,rfl,⟨rfl,tX⟩,.of (.int _),false,rfl,k⟩
  |no h=>
   obtain⟨t,ty,h|⟨h1,h2⟩⟩:=h
   ·exact⟨_,rfl,_,_,_,t,false,rfl,⟨rfl,h⟩,ty,false,rfl,k⟩
   ·refine⟨_,rfl,_,_,_,t,true,rfl,⟨rfl,h1⟩,ty,true,rfl,?_⟩
    exact⟨_,rfl,_,_,_,t,true,rfl,⟨rfl,h2⟩,ty,true,rfl,k⟩
end
section
variable {P:Program} {w:World} {K:PySem.W.Frag} {mg:Str→Option Value} {base:Heap}
def fE(o:Option Int)(lo hi:Int):Bool:=match o with
 |some i=>decide (lo≤i)&&decide (i≤hi)
 |none=>false
def kD(K:PySem.W.Frag):Sp:=fun vs H Q _=>∃x o lo hi,vs=[x,.int lo,.int hi]∧Wh K H x o∧Q (.bl (fE o lo hi)) H
theorem aBW:aZ ["thing","least","most"] ["thing","least","most"] (aN pT):=⟨rfl,rfl,rfl,by decide +kernel,rfl,by decide +kernel,by decide +kernel⟩
theorem aA7{f:Addr}{fd:FuncData}(F:Fun K "is_whole_within" "is_whole_within" pT f fd)(W:Cal P w K mg base CX0 1 "is_whole" ["thing"] (pU K)):FnOk P w K mg base CX0 2 f fd ["thing","least","most"] (kD K):=by
 refine F.ok aBW (fun vs H Q E h=>?_) (fun cdv A outer s H vs Q E hr h=>?_)
 ·obtain⟨x,o,lo,hi,rfl,_⟩:=h
  rfl
 ·obtain⟨x,o,lo,hi,rfl,wh,k⟩:=h
  refine⟨_,aJ (bA (jH (aQ W hr aT (aA (pv 0) aD)) (kO (aBt aCm aCm (pv 1) (pv 0) (pv 2))))),?_⟩
  refine⟨_,rfl,x,o,rfl,wh,?_⟩
  cases wh with
  |no h=>exact⟨false,rfl,k⟩
  |int i=>
   refine⟨true,rfl,_,rfl,_,rfl,_,_,rfl,rfl,_,rfl,?_⟩
   show if decide (lo≤i)=true then _ else _
   have k':Q (.bl (decide (lo≤i)&&decide (i≤hi))) H:=k
   by_cases h:lo≤i
   ·rw[decide_eq_true h] at k' ⊢
    exact⟨_,rfl,_,_,rfl,rfl,k'⟩
   ·rw[decide_eq_false h] at k' ⊢
    exact k'
def mL(K:PySem.W.Frag):Sp:=fun vs H Q _=>∃x o n,vs=[.int n,x]∧Wh K H x o∧Q (.bl (fE o 0 (n-1))) H
theorem aC5:aZ ["many","thing"] ["many","thing"] (aN tW):=⟨rfl,rfl,rfl,by decide +kernel,rfl,by decide +kernel,by decide +kernel⟩
theorem aBX{f:Addr}{fd:FuncData}(F:Fun K "is_house" "is_house" tW f fd)(W:Cal P w K mg base CX0 2 "is_whole_within" ["thing","least","most"] (kD K)):FnOk P w K mg base CX0 3 f fd ["many","thing"] (mL K):=by
 refine F.ok aC5 (fun vs H Q E h=>?_) (fun cdv A outer s H vs Q E hr h=>?_)
 ·obtain⟨x,o,n,rfl,_⟩:=h
  rfl
 ·obtain⟨x,o,n,rfl,wh,k⟩:=h
  refine⟨_,aJ (bA (aQ W hr aT (aA (pv 1) (aA aK (aA (aY jI (pv 0) aK) aD))))),?_⟩
  exact⟨_,rfl,_,rfl,_,_,rfl,rfl,x,o,0,n-1,rfl,wh,k⟩
inductive Rw (K:PySem.W.Frag) (H:Hp):V→Option (List V)→Prop where
 |tup {p:Addr} {xs:List V} (h:H p=some (.tup xs)):Rw K H (.ref p) (some xs)
 |no {x:V} {t:Value} (ty:TyX K H x t) (h:PySem.W.kitOne K t (.type "tuple")=some false):Rw K H x none
def aEM(o:Option (List V))(m:Int):Bool:=match o with
 |some xs=>decide ((xs.length:Int)=m)
 |none=>false
theorem aC6{K:PySem.W.Frag}:PySem.W.kitOne K (.type "tuple") (.type "tuple")=some true:=by kernel_rfl
def zA(K:PySem.W.Frag):Sp:=fun vs H Q _=>∃x o m,vs=[x,.int m]∧Rw K H x o∧Q (.bl (aEM o m)) H
theorem aEN:aZ ["thing","length"] ["thing","length"] (aN sRow):=⟨rfl,rfl,rfl,by decide +kernel,rfl,by decide +kernel,by decide +kernel⟩
theorem aD4{f:Addr}{fd:FuncData}(F:Fun K "is_row" "is_row" sRow f fd)(B:Bl mg):FnOk P w K mg base CX0 1 f fd ["thing","length"] (zA K):=by
 refine F.ok aEN (fun vs H Q E h=>?_) (fun cdv A outer s H vs Q E hr h=>?_)
 ·obtain⟨x,o,m,rfl,_⟩:=h
  rfl
 ·obtain⟨x,o,m,rfl,W,k⟩:=h
  refine⟨_,aJ (bA (jH (aS iK (by rfl) B.isi PyProof.Rows.boot_isinstance (aA (pv 0) (aA (jG (v:=.ty "tuple") rfl B.tup PyProof.Rows.boot_tuple rfl) aD)))
   (kO (iB dM (aS aW (by rfl) B.len PySem.boot_len (aA (pv 0) aD)) (pv 1) (aX _))))),?_⟩
  cases W with
  |@tup p xs h=>
   refine⟨_,rfl,_,_,_,.type "tuple",true,rfl,⟨rfl,aC6⟩,.of (.tup h),true,rfl,?_⟩
   refine⟨_,rfl,_,_,rfl,.inr (SqT.of h),_,rfl,rfl,?_⟩
   have e:decide (V.int ((xs.length:Nat):Int)=V.int m)=decide (((xs.length:Nat):Int)=m):=by simp
   rw[e]
   exact k
  |no ty h=>exact⟨_,rfl,_,_,_,_,false,rfl,⟨rfl,h⟩,ty,false,rfl,k⟩
end
end K12
namespace K12
open PySem L2
theorem bE{D:Addr}{H H':Hp}{o:HO}(s:Same H H')(hD:H D=none):Same H (upd H' D o):=fun b u e=>by rw[aF (aH e hD)];exact s b u e
abbrev IV(ns:List Int):List V:=ns.map V.int
abbrev NV(ns:List Nat):List V:=ns.map fun (x:Nat)=>V.int (x:Int)
theorem if_k{c:TT}{t u:TS}{D:Ends}{σ:St}{H:Hp}(Gy Gn:Hp→Prop)(hy:∀H,Gy H→t D σ H)(hn:∀H,Gn H→u D σ H)(ht:∀Y N:Hp→Prop,(∀H,Gy H→Y H)→(∀H,Gn H→N H)→c σ H fun b H1=>if b=true then Y H1 else N H1):tIfS c t u D σ H:=ht _ _ hy hn
theorem gX{t u:TS}{D:Ends}{σ:St}{H:Hp}(G:St→Hp→Prop)(hr:∀σ H,G σ H→u D σ H)(ht:∀N:St→Hp→Prop,(∀σ H,G σ H→N σ H)→t { D with nx:=N } σ H):tSeq t u D σ H:=ht _ hr
abbrev Zs:=List (Addr×(Int×Int))
abbrev prT(u:Int×Int):HO:=.tup [.int u.1,.int u.2]
def zr(zs:Zs):List V:=zs.map fun z=>V.ref z.1
def zp(zs:Zs):List (Int×Int):=zs.map (·.2)
def PO(H:Hp)(zs:Zs):Prop:=∀z∈zs,H z.1=some (prT z.2)
theorem dE{a b:Zs}:zr (a++b)=zr a++zr b:=List.map_append
theorem dF{a b:Zs}:zp (a++b)=zp a++zp b:=List.map_append
theorem cF{a:Zs}:(zr a).length=a.length:=List.length_map _
theorem bJ{a:Zs}:(zp a).length=a.length:=List.length_map _
theorem jP{a:Zs}:zr a=(a.map (·.1)).map V.ref:=by unfold zr;rw[List.map_map];rfl
theorem jQ{zs:Zs}{i:Nat}{x:V}(h:(zr zs)[i]?=some x):∃z,zs[i]?=some z∧x=.ref z.1:=by
 unfold zr at h
 rw[List.getElem?_map] at h
 cases e:zs[i]? with
 |none=>rw[e] at h;cases h
 |some z=>rw[e] at h;exact⟨z,rfl,(Option.some.inj h).symm⟩
theorem PO.nil{H:Hp}:PO H []:=fun z hz=>(nomatch hz)
theorem PO.same{H H':Hp}{zs:Zs}(h:PO H zs)(s:Same H H'):PO H' zs:=fun z hz=>s _ _ (h z hz)
theorem PO.putL{H:Hp}{D:Addr}{xs:List V}{o:HO}{zs:Zs}(h:PO H zs)(e:H D=some (.lst xs)):PO (upd H D o) zs:=fun z hz=>by
 have:=h z hz
 rw[aF (by rintro rfl;rw[e] at this;cases this)];exact this
theorem PO.putN{H:Hp}{D:Addr}{o:HO}{zs:Zs}(h:PO H zs)(e:H D=none):PO (upd H D o) zs:=h.same (aG e)
theorem PO.append{H:Hp}{a b:Zs}(h:PO H a)(h':PO H b):PO H (a++b):=fun z hz=>(List.mem_append.mp hz).elim (h z) (h' z)
theorem PO.one{H:Hp}{p:Addr}{u:Int×Int}(h:H p=some (prT u)):PO H [(p,u)]:=fun z hz=>by rw[List.mem_singleton.mp hz];exact h
theorem tY{zs:Zs}{i:Nat}(h:i<zs.length):(zs.map (·.1)).getD i 0=zs[i].1:=by
 rw[List.getD_eq_getElem?_getD,List.getElem?_map,List.getElem?_eq_getElem h];rfl
theorem xE{zs:Zs}{i:Nat}(h:i<zs.length):(zp zs).getD i (0,0)=zs[i].2:=by
 unfold zp
 rw[List.getD_eq_getElem?_getD,List.getElem?_map,List.getElem?_eq_getElem h];rfl
theorem aA8{H:Hp}{zs:Zs}(ho:PO H zs):∃g:Addr→Int×Int,(∀z∈zs,g z.1=z.2)∧∀ {as:List Addr},as.Perm (zs.map (·.1))→∃zs':Zs,zs'.Perm zs∧as=zs'.map (·.1):=by
 classical
 let f:Addr→Int×Int:=fun a=>match H a with
  |some (.tup [.int x,.int y])=>(x,y)
  |_=>(0,0)
 have e2:∀z∈zs,f z.1=z.2:=fun z hz=>by
  show (match H z.1 with|some (.tup [.int x,.int y])=>(x,y)|_=>(0,0))=z.2
  rw[ho z hz]
 have e:(zs.map (·.1)).map (fun a=>(a,f a))=zs:=by
  rw[List.map_map]
  conv=>rhs;rw[← List.map_id zs]
  refine List.map_congr_left fun z hz=>?_
  show (z.1,f z.1)=z
  rw[e2 z hz]
 refine⟨f,e2,fun {as} h=>⟨as.map fun a=>(a,f a),?_,?_⟩⟩
 ·have:=h.map (fun a=>(a,f a))
  rw[e] at this
  exact this
 ·rw[List.map_map]
  exact(List.map_id as).symm
abbrev Ord(us:List (Int×Int)):Prop:=us.Pairwise fun u v=>pk u≤pk v
theorem aC7{K:PySem.W.Frag}{H:Hp}{l:Addr}{zs:Zs}{Q:VK}(hl:H l=some (.lst (zr zs)))(ho:PO H zs)(hz:zs.length≤4096)(hb:∀u∈zp zs,0≤u.2∧u.2<64)(q:∀ (D:Addr) (zs':Zs),H D=none→zs'.Perm zs→Ord (zp zs')→Q (.ref D) (upd H D (.lst (zr zs')))):aAV K [.ref l] H Q:=by
 obtain⟨g,hg,lift⟩:=aA8 ho
 refine⟨l,zs.map (·.1),g,rfl,SqL.of (by rw[← jP];exact hl),fun a ha=>?_,by rw[List.length_map];exact hz,fun D as' hD hp so=>?_⟩
 ·obtain⟨z,hz,rfl⟩:=List.mem_map.mp ha
  rw[hg z hz]
  exact⟨SqT.of (ho z hz),hb _ (List.mem_map.mpr ⟨z,hz,rfl⟩)⟩
 ·obtain⟨zs',h1,rfl⟩:=lift hp
  rw[← jP]
  refine q D zs' hD h1 ?_
  unfold zp Ord
  rw[List.pairwise_map] at so ⊢
  refine so.imp_of_mem fun {a b} ha hb h=>?_
  rw[hg a (h1.mem_iff.mp ha),hg b (h1.mem_iff.mp hb)] at h
  exact h
theorem kE{lo:Int}{n:Nat}{D:Addr}{g:TG}{tt:TT}{te:TE}{fin:Hp→Prop}{σB:St}{H0:Hp}(F:Nat→Int×Int)(shape:St→Prop)(hD:H0 D=none)(hn:n≤100000)(h0:shape σB)(hs:∀i σ H (R:V→St→Hp→Prop) (Kf:St→Hp→Prop),i<n→shape σ→Same H0 H→(∀σ2 p,shape σ2→H p=none→R (.ref p) σ2 (upd H p (prT (F i))))→g (.int (lo+i)) σ H fun σ2 H2=>tt σ2 H2 fun b H3=>if b=true then te σ2 H3 fun v H4=>R v σ2 H4 else Kf σ2 H3)(hd:∀zs H,Same H0 H→H D=some (.lst (zr zs))→PO H zs→zp zs=(List.range n).map F→(∀z∈zs,H0 z.1=none)→fin H):dN (Itr lo n) g tt te D fin σB (upd H0 D (.lst [])):=by
 refine eE (fun i ys σ H=>shape σ∧Same H0 H∧H D=some (.lst ys)∧∃zs:Zs,ys=zr zs∧PO H zs∧zp zs=(List.range i).map F∧∀z∈zs,H0 z.1=none) ⟨h0,aG hD,aB,[],rfl,PO.nil,rfl,fun z hz=>nomatch hz⟩ ?_ ?_
 ·rintro i ys σ H Kt Kf hi ⟨sh,sm,hDl,zs,rfl,po,ep,fr⟩ kt kf
  have hl:zs.length=i:=by rw[← bJ,ep,List.length_map,List.length_range]
  refine hs i σ H Kt Kf hi sh sm (fun σ2 p sh2 hp=>?_)
  ·have nD:D≠p:=aH hDl hp
   refine kt _ _ _ (by rw[aF nD];exact hDl) (by rw[cF,hl];exact Nat.lt_of_lt_of_le hi (Nat.le_trans hn (by decide))) ⟨sh2,bE (sm.trans (aG hp)) hD,aB,zs++[(p,F i)],?_,?_,?_,?_⟩
   ·rw[dE];rfl
   ·refine PO.putL (xs:=zr zs) ?_ (by rw[aF nD];exact hDl)
    exact(po.putN hp).append (PO.one aB)
   ·rw[dF,ep,List.range_succ,List.map_append];rfl
   ·intro z hz
    rcases List.mem_append.mp hz with z'|z'
    ·exact fr z z'
    ·rw[List.mem_singleton.mp z'];exact sm.free hp
 ·rintro ys σ H ⟨_,sm,hDl,zs,rfl,po,ep,fr⟩
  exact hd zs H sm hDl po ep fr
theorem aBY{K:PySem.W.Frag}{a D:Addr}{zs0:Zs}{g:TG}{tt:TT}{te:TE}{fin:Hp→Prop}{σB:St}{H0:Hp}(F:Int×Int→Int×Int)(shape:St→Prop)(ha:H0 a=some (.lst (zr zs0)))(hp0:PO H0 zs0)(hD:H0 D=none)(hn:zs0.length≤100000)(h0:shape σB)(hs:∀z σ H (R:V→St→Hp→Prop) (Kf:St→Hp→Prop),z∈zs0→shape σ→H z.1=some (prT z.2)→(∀σ2 p,shape σ2→H p=none→R (.ref p) σ2 (upd H p (prT (F z.2))))→g (.ref z.1) σ H fun σ2 H2=>tt σ2 H2 fun b H3=>if b=true then te σ2 H3 fun v H4=>R v σ2 H4 else Kf σ2 H3)(hd:∀zs H,Same H0 H→H D=some (.lst (zr zs))→PO H zs→zp zs=(zp zs0).map F→(∀z∈zs,H0 z.1=none)→fin H):dN (Itl K a) g tt te D fin σB (upd H0 D (.lst [])):=by
 refine cJ (xs:=zr zs0) (fun i ys σ H=>shape σ∧Same H0 H∧H D=some (.lst ys)∧∃zs:Zs,ys=zr zs∧PO H zs∧zp zs=((zp zs0).take i).map F∧∀z∈zs,H0 z.1=none) ⟨h0,aG hD,aB,[],rfl,PO.nil,rfl,fun z hz=>nomatch hz⟩ (fun i ys σ H _ z=>SqL.of (z.2.1 _ _ ha)) ?_ ?_
 ·rintro i x ys σ H Kt Kf hx ⟨sh,sm,hDl,zs,rfl,po,ep,fr⟩ kt kf
  obtain⟨z,hz,rfl⟩:=jQ hx
  have hi:i<zs0.length:=(List.getElem?_eq_some_iff.mp hz).1
  have hzm:z∈zs0:=List.mem_of_getElem? hz
  have hl:zs.length=i:=by rw[← bJ,ep,List.length_map,List.length_take,bJ];lia
  refine hs z σ H Kt Kf hzm sh (sm _ _ (hp0 z hzm)) (fun σ2 p sh2 hp=>?_)
  ·have nD:D≠p:=aH hDl hp
   refine kt _ _ _ (by rw[aF nD];exact hDl) (by rw[cF,hl];exact Nat.lt_of_lt_of_le hi (Nat.le_trans hn (by decide))) ⟨sh2,bE (sm.trans (aG hp)) hD,aB,zs++[(p,F z.2)],?_,?_,?_,?_⟩
   ·rw[dE];rfl
   ·refine PO.putL (xs:=zr zs) ?_ (by rw[aF nD];exact hDl)
    exact(po.putN hp).append (PO.one aB)
   ·have e2:(zp zs0)[i]?=some z.2:=by unfold zp;rw[List.getElem?_map,hz];rfl
    rw[dF,ep,List.take_add_one,e2,Option.toList_some,List.map_append];rfl
   ·intro z hz
    rcases List.mem_append.mp hz with z'|z'
    ·exact fr z z'
    ·rw[List.mem_singleton.mp z'];exact sm.free hp
 ·rintro ys σ H ⟨_,sm,hDl,zs,rfl,po,ep,fr⟩
  rw[cF,← bJ,List.take_length] at ep
  exact hd zs H sm hDl po ep fr
end K12
namespace K12
open PySem L2
open NetM
abbrev rT:Stmt:=pK (top 18) 0
abbrev sFar:Stmt:=pK (top 18) 4
abbrev tZ:Stmt:=pK (top 18) 8
theorem n12:¬ (("house_count":Str)="tie_list"):=by decide +kernel
theorem n13:¬ (("house_count":Str)="out_lists"):=by decide +kernel
theorem n14:¬ (("house_count":Str)="distances"):=by decide +kernel
def flds(n:Int)(tl ol ds:Addr):List (Str×V):=putF "distances" (.ref ds) (putF "out_lists" (.ref ol) (putF "tie_list" (.ref tl) (putF "house_count" (.int n) [])))
theorem aC8(n:Int)(tl ol ds:Addr):(flds n tl ol ds).lookup ("house_count":Str)=some (.int n):=by
 unfold flds
 rw[bY,if_neg n14,bY,if_neg n13,bY,if_neg n12,bY,if_pos rfl]
theorem xF(n:Int)(tl ol ds:Addr){m:Str}(h1:¬ m="house_count")(h2:¬ m="tie_list")(h3:¬ m="out_lists")(h4:¬ m="distances"):(flds n tl ol ds).lookup m=none:=by
 unfold flds
 rw[bY,if_neg h4,bY,if_neg h3,bY,if_neg h2,bY,if_neg h1]
 all_goals rfl
theorem aC9(n:Int)(tl ol ds:Addr):(flds n tl ol ds).lookup ("distances":Str)=some (.ref ds):=by
 unfold flds
 rw[bY,if_pos rfl]
def bL(H:Hp)(L:Addr→Prop)(l:Addr)(n:Nat)(r:Nat→List Nat):Prop:=∃bs:List Addr,H l=some (.lst (bs.map V.ref))∧(∀b∈bs,L b)∧Holds H bs n (fun h=>.lst (NV (r h)))
theorem bL.keep{H H':Hp}{L:Addr→Prop}{l:Addr}{n:Nat}{r:Nat→List Nat}(R:bL H L l n r)(hl:L l)(k:∀b o,L b→H b=some o→H' b=some o):bL H' L l n r:=
 let ⟨bs,a,b,c⟩:=R
 ⟨bs,k _ _ hl a,b,c.mono fun j hj e=>k _ _ (b _ (by rw[List.getD_eq_getElem?_getD,List.getElem?_eq_getElem (by rw[c.1];exact hj)];exact List.getElem_mem _)) e⟩
theorem bL.row{H:Hp}{L:Addr→Prop}{l:Addr}{n:Nat}{r:Nat→List Nat}(R:bL H L l n r){h:Nat}(hh:h<n):∃ (bs:List Addr) (b:Addr),H l=some (.lst (bs.map V.ref))∧(bs.map V.ref)[h]?=some (V.ref b)∧H b=some (.lst (NV (r h)))∧L b:=by
 obtain⟨bs,a,b,c⟩:=R
 have hl:h<bs.length:=by rw[c.1];exact hh
 refine⟨bs,bs[h],a,by rw[List.getElem?_map,List.getElem?_eq_getElem hl];rfl,?_,b _ (List.getElem_mem _)⟩
 have:=c.2 h hh
 rw[List.getD_eq_getElem?_getD,List.getElem?_eq_getElem hl] at this
 exact this
def TieL(H:Hp)(L:Addr→Prop)(tl:Addr)(ts:Ts):Prop:=L tl∧∃zs:Zs,H tl=some (.lst (zr zs))∧PO H zs∧(∀z∈zs,L z.1)∧(zp zs).Perm ts∧Ord (zp zs)
theorem TieL.keep{H H':Hp}{L:Addr→Prop}{tl:Addr}{ts:Ts}(h:TieL H L tl ts)(k:∀b o,L b→H b=some o→H' b=some o):TieL H' L tl ts:=
 let ⟨a,zs,b,c,d,e⟩:=h;⟨a,zs,k _ _ a b,fun z hz=>k _ _ (d z hz) (c z hz),d,e⟩
structure cQ(C:Addr)(H:Hp)(L:Addr→Prop)(p:Addr)(n:Nat)(ts:Ts):Prop where
 fine:Fine n ts
 ob:∃dx tl ol ds,H p=some (.ins C dx (flds n tl ol ds))∧L ol∧L ds∧bL H L ol n (outN n ts)∧bL H L ds n (fun h=>(List.range n).map (far ts h))∧TieL H L tl ts
theorem cQ.keep{C:Addr}{H H':Hp}{L:Addr→Prop}{p:Addr}{n:Nat}{ts:Ts}(N:cQ C H L p n ts)(k:∀b o,L b→H b=some o→H' b=some o)(kp:∀o,H p=some o→H' p=some o):cQ C H' L p n ts:=
 let ⟨dx,tl,ol,ds,a,l1,l2,b,c,d⟩:=N.ob
 ⟨N.fine,dx,tl,ol,ds,kp _ a,l1,l2,b.keep l1 k,c.keep l2 k,d.keep k⟩
theorem cQ.same{C:Addr}{H H':Hp}{L:Addr→Prop}{p:Addr}{n:Nat}{ts:Ts}(N:cQ C H L p n ts)(s:Same H H'):cQ C H' L p n ts:=N.keep (fun b o _ e=>s b o e) (fun o e=>s _ o e)
structure NT(K:PySem.W.Frag)(mg:Str→Option Value)(C:Addr):Prop where
 cl:Cls K C
 nH:eZ K C "house_count"
 nT:eZ K C "tie_list"
 nO:eZ K C "out_lists"
 nD:eZ K C "distances"
 mgC:mg "Net"=some (.ref C)
structure MCal(P:Program)(w:World)(K:PySem.W.Frag)(mg:Str→Option Value)(base:Heap)(CX:CXT)(k:Nat)(C:Addr)(x:Str)(ps:List Str)(sp:Sp):Prop where
 ex:∃f fd,Meth K C x f∧fY K fd ps []∧FnOk P w K mg base CX k f fd ps sp
section
variable {P:Program} {w:World} {K:PySem.W.Frag} {mg:Str→Option Value} {base:Heap}
theorem aDa:aZ ["self","thing"] ["self","thing"] (aN tZ):=⟨rfl,rfl,rfl,by decide +kernel,rfl,by decide +kernel,by decide +kernel⟩
theorem aA9{i n:Nat}(h:i<n):fE (some (i:Int)) 0 ((n:Int)-1)=true:=by unfold fE;simp;lia
def nK(C:Addr):Sp:=fun vs H Q _=>∃ (L:Addr→Prop) (p:Addr) (n:Nat) (ts:Ts) (i:Nat),vs=[.ref p,.int i]∧cQ C H L p n ts∧i<n∧Q .non H
theorem aBa{f C:Addr}{fd:FuncData}(F:Fun K "check_house" "Net.check_house" tZ f fd)(T:NT K mg C)(HH:Cal P w K mg base CX0 3 "is_house" ["many","thing"] (mL K)):
  FnOk P w K mg base CX0 4 f fd ["self","thing"] (nK C):=by
 refine F.ok aDa (fun vs H Q E h=>?_) (fun cdv A outer s H vs Q E hr h=>?_)
 ·obtain⟨L,p,n,ts,i,rfl,_⟩:=h
  rfl
 ·obtain⟨L,p,n,ts,i,rfl,N,hi,k⟩:=h
  obtain⟨dx,tl,ol,ds,h1,_⟩:=N.ob
  refine⟨_,aJ (bR (gZ (eU (aQ HH hr aT (aA (oA (pv 0) rfl) (aA (pv 1) aD))))) eA bD),?_⟩
  refine⟨_,rfl,p,C,dx,_,_,rfl,h1,T.cl,T.nH,aC8 _ _ _ _,_,rfl,_,some (i:Int),n,rfl,.int _,_,rfl,?_⟩
  rw[aA9 hi]
  exact iteF k
theorem nchk(n:Int)(tl ol ds:Addr):(flds n tl ol ds).lookup ("check_house":Str)=none:=xF n tl ol ds (by decide +kernel) (by decide +kernel) (by decide +kernel) (by decide +kernel)
theorem nfar(n:Int)(tl ol ds:Addr):(flds n tl ol ds).lookup ("far":Str)=none:=xF n tl ol ds (by decide +kernel) (by decide +kernel) (by decide +kernel) (by decide +kernel)
theorem aD5{xs:List Nat}{i:Nat}(h:i<xs.length):(NV xs)[i]?=some (.int ((xs[i]:Nat):Int)):=by rw[List.getElem?_map,List.getElem?_eq_getElem h];rfl
theorem aU{xs:List Nat}:(NV xs).length=xs.length:=List.length_map _
theorem aEO:aZ ["self","one","other"] ["self","one","other"] (aN sFar):=⟨rfl,rfl,rfl,by decide +kernel,rfl,by decide +kernel,by decide +kernel⟩
def uA(C:Addr):Sp:=fun vs H Q _=>∃ (L:Addr→Prop) (p:Addr) (n:Nat) (ts:Ts) (i j:Nat),vs=[.ref p,.int i,.int j]∧cQ C H L p n ts∧i<n∧j<n∧Q (.int (far ts i j:Nat)) H
theorem aDb{f C:Addr}{fd:FuncData}(F:Fun K "far" "Net.far" sFar f fd)(T:NT K mg C)(M:MCal P w K mg base CX0 4 C "check_house" ["self","thing"] (nK C)):
  FnOk P w K mg base CX0 5 f fd ["self","one","other"] (uA C):=by
 obtain⟨fM,fdM,mM,bM,GM⟩:=M.ex
 refine F.ok aEO (fun vs H Q E h=>?_) (fun cdv A outer s H vs Q E hr h=>?_)
 ·obtain⟨L,p,n,ts,i,j,rfl,_⟩:=h
  rfl
 ·obtain⟨L,p,n,ts,i,j,rfl,N,hi,hj,k⟩:=h
  obtain⟨dx,tl,ol,ds,h1,_,_,_,R,_⟩:=N.ob
  refine⟨_,aE (bS (lX (pv 0) T.cl mM GM hr bM .nil aT (aA (pv 1) aD)))
   (aE (bS (lX (pv 0) T.cl mM GM hr bM .nil aT (aA (pv 2) aD)))
   (aJ (bA (aR aP (aR aP (oA (pv 0) rfl) (pv 1) (fun _ _=>rfl)) (pv 2) (fun _ _=>rfl))))),?_⟩
  refine⟨_,rfl,p,dx,_,rfl,h1,nchk _ _ _ _,_,rfl,L,p,n,ts,i,rfl,N,hi,?_⟩
  refine⟨_,rfl,p,dx,_,rfl,h1,nchk _ _ _ _,_,rfl,L,p,n,ts,j,rfl,N,hj,?_⟩
  obtain⟨bs,b,r1,r2,r3,_⟩:=R.row hi
  have hg:(NV ((List.range n).map (far ts i)))[j]?=some (.int (far ts i j:Nat)):=by
   rw[List.getElem?_map,List.getElem?_map,List.getElem?_range hj];rfl
  exact⟨_,rfl,p,C,dx,_,_,rfl,h1,T.cl,T.nD,aC9 _ _ _ _,_,rfl,ds,_,_,_,rfl,rfl,SqL.of r1,aM r2,_,rfl,b,_,_,_,rfl,rfl,SqL.of r3,aM hg,k⟩
end
end K12
namespace K12
open PySem L2 NetM
abbrev uB:Stmt:=top 19
abbrev sTie:Stmt:=top 20
abbrev sBal:Stmt:=top 21
section
variable {P:Program} {w:World} {K:PySem.W.Frag} {mg:Str→Option Value} {base:Heap}
abbrev sUnl:Stmt:=top 12
theorem aEP:aZ ["many","one","other"] ["many","one","other"] (aN sUnl):=⟨rfl,rfl,rfl,by decide +kernel,rfl,by decide +kernel,by decide +kernel⟩
def zB:Sp:=fun vs H Q _=>∃ (n a b:Int),vs=[.int n,.int a,.int b]∧0≤a∧a<n∧0≤b∧b<n∧a≠b∧Q (.bl true) H
theorem aD6{f:Addr}{fd:FuncData}(F:Fun K "are_unlike_houses" "are_unlike_houses" sUnl f fd)(HH:Cal P w K mg base CX0 3 "is_house" ["many","thing"] (mL K)):
  FnOk P w K mg base CX0 4 f fd ["many","one","other"] zB:=by
 refine F.ok aEP (fun vs H Q E h=>?_) (fun cdv A outer s H vs Q E hr h=>?_)
 ·obtain⟨n,a,b,rfl,_⟩:=h
  rfl
 ·obtain⟨n,a,b,rfl,a1,a2,b1,b2,hne,k⟩:=h
  refine⟨_,aJ (bA (jH (aQ HH hr aT (aA (pv 0) (aA (pv 1) aD))) (jH (aQ HH hr aT (aA (pv 0) (aA (pv 2) aD))) (kO (iB nX (pv 1) (pv 2) (aX _)))))),?_⟩
  refine⟨_,rfl,_,rfl,_,_,n,rfl,.int a,_,rfl,?_⟩
  rw[if_pos (show fE (some a) 0 (n-1)=true by unfold fE;simp;lia)]
  refine⟨_,rfl,_,rfl,_,_,n,rfl,.int b,_,rfl,?_⟩
  rw[if_pos (show fE (some b) 0 (n-1)=true by unfold fE;simp;lia)]
  refine⟨_,rfl,_,rfl,rfl,?_⟩
  have e:(!decide (V.int a=V.int b))=true:=by simp[hne]
  rw[e]
  exact k
theorem aEQ:aZ ["many","thing"] ["many","thing"] (aN sTie):=⟨rfl,rfl,rfl,by decide +kernel,rfl,by decide +kernel,by decide +kernel⟩
def zC:Sp:=fun vs H Q _=>∃ (n:Int) (p:Addr) (a b:Int),vs=[.int n,.ref p]∧H p=some (.tup [.int a,.int b])∧0≤a∧a<n∧0≤b∧b<n∧a≠b∧Q (.bl true) H
theorem aD7{f:Addr}{fd:FuncData}(F:Fun K "is_tie" "is_tie" sTie f fd)(R:Cal P w K mg base CX0 1 "is_row" ["thing","length"] (zA K))(U:Cal P w K mg base CX0 4 "are_unlike_houses" ["many","one","other"] zB):
  FnOk P w K mg base CX0 5 f fd ["many","thing"] zC:=by
 refine F.ok aEQ (fun vs H Q E h=>?_) (fun cdv A outer s H vs Q E hr h=>?_)
 ·obtain⟨n,p,a,b,rfl,_⟩:=h
  rfl
 ·obtain⟨n,p,a,b,rfl,hp,a1,a2,b1,b2,hne,k⟩:=h
  refine⟨_,aJ (bA (jH (aQ R (hr.mono (by decide)) aT (aA (pv 1) (aA aK aD)))
   (kO (aQ U hr aT (aA (pv 0) (aA (aR cG (pv 1) aK (fun _ _=>rfl)) (aA (aR cG (pv 1) aK (fun _ _=>rfl)) aD))))))),?_⟩
  refine⟨_,rfl,_,_,_,rfl,.tup hp,true,rfl,?_⟩
  exact⟨_,rfl,_,rfl,p,_,_,_,rfl,rfl,SqT.of hp,aM (j:=0) rfl,_,rfl,p,_,_,_,rfl,rfl,SqT.of hp,aM (j:=1) rfl,n,a,b,rfl,a1,a2,b1,b2,hne,k⟩
theorem xG:aZ ["many","ties","tie"] ["many","ties"] (aN uB):=⟨rfl,rfl,rfl,by decide +kernel,rfl,by decide +kernel,by decide +kernel⟩
theorem aBZ{K:PySem.W.Frag}:PySem.W.kitOne K (.type "list") (.type "list")=some true:=by kernel_rfl
structure eK(H:Hp)(l:Addr)(n:Nat)(zs:Zs):Prop where
 fine:Fine n (zp zs)
 at_:H l=some (.lst (zr zs))
 po:PO H zs
theorem eK.same{H H':Hp}{l:Addr}{n:Nat}{zs:Zs}(h:eK H l n zs)(s:Same H H'):eK H' l n zs:=⟨h.fine,s _ _ h.at_,h.po.same s⟩
def iC:Sp:=fun vs H Q _=>∃ (n:Nat) (l:Addr) (zs:Zs),vs=[.int n,.ref l]∧eK H l n zs∧∀H',Same H H'→Q .non H'
theorem aB0{f:Addr}{fd:FuncData}(F:Fun K "check_ties" "check_ties" uB f fd)(B:Bl mg)(gF:∃t,mg "FEWEST_HOUSES"=some (.int 2 t))(gM:∃t,mg "MOST_HOUSES"=some (.int 32 t))(W:Cal P w K mg base CX0 2 "is_whole_within" ["thing","least","most"] (kD K))(T:Cal P w K mg base CX0 5 "is_tie" ["many","thing"] zC):
  FnOk P w K mg base CX0 6 f fd ["many","ties"] iC:=by
 obtain⟨tF,gF⟩:=gF
 obtain⟨tM,gM⟩:=gM
 refine F.ok xG (fun vs H Q E h=>?_) (fun cdv A outer s H vs Q E hr h=>?_)
 ·obtain⟨n,l,zs,rfl,_⟩:=h
  rfl
 ·refine⟨_,aE (bR (gZ (eU (aQ W (hr.mono (by decide)) aT (aA (pv 0) (aA (pH (v:=.int 2) rfl gF ⟨_,rfl⟩) (aA (pH (v:=.int 32) rfl gM ⟨_,rfl⟩) aD)))))) eA bD)
   (aE (bR (gZ (eU (aS iK (by rfl) B.isi PyProof.Rows.boot_isinstance (aA (pv 1) (aA (jG (v:=.ty "list") rfl B.lst PyProof.Rows.boot_list rfl) aD))))) eA bD)
   (aE (cA PassesOwn.never rfl (bP (pv 1)) (aL (i:=2) xG.nd rfl (Or.inl rfl)) (aJ (bR (gZ (eU (aQ T hr aT (aA (pv 0) (aA (pv 2) aD))))) eA bD)))
   (aJ (bR (aV nX (aS vF (by rfl) B.len PySem.boot_len (aA (cD (aAE rfl (by have:=hr.un;show (A.deeper _).units+8<_;lia)) (by rfl) B.set PyProof.Rows.boot_set (aA (pv 1) aD)) aD)) (aS aW (by rfl) B.len PySem.boot_len (aA (pv 1) aD)) (aX _)) eA bD)))),?_⟩
  obtain⟨n,l,zs,rfl,tt,k⟩:=h
  obtain⟨fi,hl,po⟩:=id tt
  have n1:=fi.n1
  have n2:=fi.n2
  refine⟨_,rfl,_,_,2,32,rfl,.int n,_,rfl,?_⟩
  rw[show fE (some (n:Int)) 2 32=true by unfold fE;simp;lia]
  refine iteF ?_
  refine⟨_,rfl,_,_,_,.type "list",true,rfl,⟨rfl,aBZ⟩,.of (.lst hl),_,rfl,iteF ?_⟩
  refine⟨_,rfl,l,rfl,⟨_,SqL.of hl⟩,fP (K:=K) (a:=l) (xs:=zr zs) (fun i σ H2=>H2=H∧∃v,σ=[some (.int n),some (.ref l),v]) ⟨rfl,none,rfl⟩ (fun i σ H2 _ ⟨e,_⟩=>by rw[e];exact SqL.of hl) ?_ ?_⟩
  ·rintro i x σ H2 hx ⟨rfl,v,rfl⟩
   obtain⟨z,hz,rfl⟩:=jQ hx
   have hzm:z∈zs:=List.mem_of_getElem? hz
   have hzp:z.2∈zp zs:=List.mem_map.mpr ⟨z,hzm,rfl⟩
   have r:=fi.rg _ hzp
   exact⟨_,rfl,_,rfl,n,_,_,_,rfl,po z hzm,r.1.1,r.1.2,r.2.1,r.2.2,fi.ne _ hzp,_,rfl,iteF ⟨rfl,_,rfl⟩⟩
  ·rintro σ H2 ⟨rfl,v,rfl⟩
   have hlen:(zp zs).length≤256:=fi.len
   refine⟨_,rfl,l,zs.map (·.1),zp zs,rfl,SqL.of (by rw[← jP];exact hl),by rw[List.length_map,bJ],fun i hi=>?_,fi.nd,fun y hy=>?_,by lia,fun D hD=>?_⟩
   ·rw[bJ] at hi
    rw[tY hi,xE hi]
    exact SqT.of (po _ (List.getElem_mem hi))
   ·have r:=fi.rg _ hy
    lia
   ·have nl:l≠D:=aH hl hD
    refine⟨D,_,rfl,aB,by lia,_,rfl,l,zr zs,rfl,.inl (SqL.of (by rw[aF nl];exact hl)),rfl,_,rfl,?_⟩
    have ez:(!decide (V.int (((zp zs).length:Nat):Int)=V.int (((zr zs).length:Nat):Int)))=false:=by rw[bJ,cF];simp
    rw[ez]
    exact iteF (k _ (aG hD))
end
end K12
namespace K12
open PySem L2 NetM
abbrev oR:Stmt:=top 22
section
variable {P:Program} {w:World} {K:PySem.W.Frag} {mg:Str→Option Value} {base:Heap}
theorem lM{zs:Zs}{l D:Addr}{H:Hp}{g:TG}{tt:TT}{te:TE}{fin:Hp→Prop}{σB:St}(S:St→Prop)(p q:Int×Int→Int)(h:Int)(hD:H D=none)(hl:H l=some (.lst (zr zs)))(po:PO H zs)(hn:zs.length≤1000)(s0:S σB)(hg:∀z σ H2 (Kt:V→St→Hp→Prop) (Kf:St→Hp→Prop),z∈zs→S σ→H2 z.1=some (prT z.2)→(∀σ2,S σ2→p z.2=h→Kt (.int (q z.2)) σ2 H2)→(∀σ2,S σ2→p z.2≠h→Kf σ2 H2)→
   g (.ref z.1) σ H2 fun σ2 H2=>tt σ2 H2 fun b H3=>if b=true then te σ2 H3 fun v H4=>Kt v σ2 H4 else Kf σ2 H3)(hd:fin (upd H D (.lst (IV (((zp zs).filter fun y=>decide (p y=h)).map q))))):dN (Itl K l) g tt te D fin σB (upd H D (.lst [])):=by
 have nl:l≠D:=aH hl hD
 have tk:∀ {i:Nat} {z:Addr×(Int×Int)},zs[i]?=some z→(zp zs).take (i+1)=(zp zs).take i++[z.2]:=fun {i z} hz=>by
  rw[List.take_add_one,show (zp zs)[i]?=some z.2 by unfold zp;rw[List.getElem?_map,hz];rfl];rfl
 refine cJ (xs:=zr zs) (fun i ys σ H2=>S σ∧ys=IV ((((zp zs).take i).filter fun y=>decide (p y=h)).map q)∧H2=upd H D (.lst ys)) ⟨s0,by simp,rfl⟩ (fun i ys σ H2 _ ⟨_,_,e⟩=>by rw[e];exact SqL.of (by rw[aF nl];exact hl)) ?_ ?_
 ·rintro i x ys σ H2 Kt Kf hx ⟨hS,ey,rfl⟩ kt kf
  obtain⟨z,hz,rfl⟩:=jQ hx
  have hzm:z∈zs:=List.mem_of_getElem? hz
  have hp:=po z hzm
  have na:z.1≠D:=aH hp hD
  have hi:i<zs.length:=(List.getElem?_eq_some_iff.mp hz).1
  refine hg z σ _ Kt Kf hzm hS (by rw[aF na];exact hp) (fun σ2 s2 e=>?_) (fun σ2 s2 e=>?_)
  ·refine kt _ _ _ aB ?_ ⟨s2,?_,?_⟩
   ·rw[ey,List.length_map,List.length_map]
    exact Nat.lt_of_le_of_lt (List.length_filter_le _ _) (Nat.lt_of_le_of_lt (List.length_take_le _ _) (Nat.lt_of_lt_of_le (show i<1000 by lia) (by decide)))
   ·rw[ey,tk hz,List.filter_append,List.map_append]
    have:decide (p z.2=h)=true:=by simp[e]
    simp[List.filter_cons,this]
   ·rw[jE]
  ·refine kf _ _ ⟨s2,?_,rfl⟩
   have:decide (p z.2=h)=false:=by simp[e]
   rw[ey,tk hz,List.filter_append]
   simp[List.filter_cons,this]
 ·rintro ys σ H2 ⟨_,ey,rfl⟩
  rw[cF,← bJ,List.take_length] at ey
  rw[ey]
  exact hd
theorem nb3:(["one","other","house"]:List Str).Nodup:=by decide +kernel
theorem rU:aZ ["many","ties","house","leading_out","leading_in"] ["many","ties"] (aN sBal):=⟨rfl,rfl,rfl,by decide +kernel,rfl,by decide +kernel,by decide +kernel⟩
theorem aD8{f:Addr}{fd:FuncData}(F:Fun K "check_balance" "check_balance" sBal f fd)(B:Bl mg)(gM:∃t,mg "MOST_TIES_OUT"=some (.int 8 t)):
  FnOk P w K mg base CX0 1 f fd ["many","ties"] iC:=by
 obtain⟨tM,gM⟩:=gM
 refine F.ok rU (fun vs H Q E h=>?_) (fun cdv A outer s H vs Q E hr h=>?_)
 ·obtain⟨n,l,zs,rfl,_⟩:=h
  rfl
 ·obtain⟨n,l,zs,rfl,T,k⟩:=h
  have fi:=T.fine
  have n1:=fi.n1
  have n2:=fi.n2
  have hlen:zs.length≤256:=by have:=fi.len;rw[bJ] at this;exact this
  refine'⟨_,aJ (cA PassesOwn.never rfl (bN rfl B.range (aA (pv 0) aD)) (aL (i:=2) rU.nd rfl (Or.inr rfl))
   (aE (aO (i:=3) rU.nd rfl (Or.inl rfl) (aS aW (by rfl) B.len PySem.boot_len (aA ?c1 aD)))
   (aE (aO (i:=4) rU.nd rfl (Or.inl rfl) (aS aW (by rfl) B.len PySem.boot_len (aA ?c2 aD)))
   (aE (bR (aV nX (pv 3) (pv 4) (aX _)) eA bD)
   (aJ (bR (aV nY (pv 3) (pH (v:=.int 8) rfl gM ⟨_,rfl⟩) (aX _)) eA bD)))))),?_⟩
  case c1=>
   refine' bV (g:=gTup K 2 (fW (bG 0) (fW (bG 1) gNil))) (NB:=["one","other","house"]) (src:=[none,none,some 2]) (bH (by kernel_rfl)) rfl (bP (pv 1)) ?g ?t ?e
   case g=>exact fun cl C s₃ H₃ fp=>dR (n:=2) rfl (bC (aL (i:=0) nb3 rfl (Or.inl rfl) (Or.inr rfl)) (bC (aL (i:=1) nb3 rfl (Or.inl rfl) (Or.inr rfl)) cR))
   case t=>exact fun cl C s₃ H₃ fp=>dG (aV dM (pv 0) (pv 2) (aX _))
   case e=>exact fun cl C s₃ H₃ fp=>pv 0
  case c2=>
   refine' bV (g:=gTup K 2 (fW (bG 0) (fW (bG 1) gNil))) (NB:=["one","other","house"]) (src:=[none,none,some 2]) (bH (by kernel_rfl)) rfl (bP (pv 1)) ?g ?t ?e
   case g=>exact fun cl C s₃ H₃ fp=>dR (n:=2) rfl (bC (aL (i:=0) nb3 rfl (Or.inl rfl) (Or.inr rfl)) (bC (aL (i:=1) nb3 rfl (Or.inl rfl) (Or.inr rfl)) cR))
   case t=>exact fun cl C s₃ H₃ fp=>dG (aV dM (pv 1) (pv 2) (aX _))
   case e=>exact fun cl C s₃ H₃ fp=>pv 1
  refine⟨_,rfl,n,rfl,by lia,by lia,cI (n:=n) (lo:=0) (fun i σ H2=>Same H H2∧∃a b c,σ=[some (.int n),some (.ref l),a,b,c]) ⟨Same.refl _,none,none,none,rfl⟩ ?_ ?_⟩
  ·rintro i σ H2 hi ⟨sm,a,b,c,rfl⟩
   have T2:=T.same sm
   refine⟨_,rfl,l,rfl,⟨_,SqL.of T2.at_⟩,fun D hD=>lM (fun σ=>∃a b,σ=[a,b,some (.int (0+(i:Int)))]) (·.1) (·.1) (0+(i:Int)) hD T2.at_ T2.po (by lia) ⟨_,_,rfl⟩ ?_ ?_⟩
   ·rintro z σ H3 Kt Kf hj ⟨x,y,rfl⟩ ha kt kf
    refine⟨z.1,_,rfl,SqT.of ha,rfl,_,_,rfl,_,_,rfl,rfl,?_⟩
    refine⟨_,rfl,_,rfl,rfl,_,rfl,?_⟩
    refine ite2 (fun e=>?_) (fun e=>?_)
    ·exact⟨_,rfl,kt _ ⟨_,_,rfl⟩ (by simpa using e)⟩
    ·exact kf _ ⟨_,_,rfl⟩ (by simpa using e)
   ·refine⟨D,_,rfl,.inl (SqL.of aB),?_⟩
    have sm2:=bE (o:=.lst (IV (((zp zs).filter fun y=>decide (y.1=0+(i:Int))).map (·.1)))) (sm.trans (Same.refl _)) (H:=H) (by cases z:H D with|none=>rfl|some o=>rw[sm _ _ z] at hD;cases hD)
    have T3:=T.same sm2
    refine⟨_,rfl,l,rfl,⟨_,SqL.of T3.at_⟩,fun D' hD'=>lM (fun σ=>∃a b,σ=[a,b,some (.int (0+(i:Int)))]) (·.2) (·.2) (0+(i:Int)) hD' T3.at_ T3.po (by lia) ⟨_,_,rfl⟩ ?_ ?_⟩
    ·rintro z σ H3 Kt Kf hj ⟨x,y,rfl⟩ ha kt kf
     refine⟨z.1,_,rfl,SqT.of ha,rfl,_,_,rfl,_,_,rfl,rfl,?_⟩
     refine⟨_,rfl,_,rfl,rfl,_,rfl,?_⟩
     refine ite2 (fun e=>?_) (fun e=>?_)
     ·exact⟨_,rfl,kt _ ⟨_,_,rfl⟩ (by simpa using e)⟩
     ·exact kf _ ⟨_,_,rfl⟩ (by simpa using e)
    ·refine⟨D',_,rfl,.inl (SqL.of aB),?_⟩
     rw[Int.zero_add] at *
     have q1:(IV (((zp zs).filter fun y=>decide (y.1=(i:Int))).map (·.1))).length=(IV (((zp zs).filter fun y=>decide (y.2=(i:Int))).map (·.2))).length:=by
      rw[List.length_map,List.length_map,List.length_map,List.length_map];exact fi.bal i
     have q2:(IV (((zp zs).filter fun y=>decide (y.1=(i:Int))).map (·.1))).length≤8:=by
      rw[List.length_map,List.length_map];exact fi.most i
     refine⟨_,rfl,_,rfl,rfl,_,rfl,?_⟩
     rw[← q1]
     rw[show (!decide (V.int (((IV (((zp zs).filter fun y=>decide (y.1=(i:Int))).map (·.1))).length:Nat):Int)=V.int (((IV (((zp zs).filter fun y=>decide (y.1=(i:Int))).map (·.1))).length:Nat):Int)))=false by simp]
     refine iteF ?_
     refine⟨_,rfl,_,_,rfl,rfl,_,rfl,?_⟩
     rw[show decide ((((IV (((zp zs).filter fun y=>decide (y.1=(i:Int))).map (·.1))).length:Nat):Int) > 8)=false by rw[decide_eq_false_iff_not];lia]
     exact iteF ⟨sm2.trans (aG hD'),_,_,_,rfl⟩
  ·rintro σ H2 ⟨sm,a,b,c,rfl⟩
   exact k H2 sm
end
end K12
namespace K12
open PySem L2 NetM
def lamE:Expr:=match (cC oR).getD 1 (.Pass ⟨0,0,0,0⟩) with
 |.Return (some (.Call _ _ (k::_) _)) _=>k.value
 |_=>.Name "x" ⟨0,0,0,0⟩
def aDc:Arguments:=match lamE with
 |.Lambda a _ _ _=>a
 |_=>{ posonlyargs:=[],args:=[],vararg:=none,kwonlyargs:=[],kw_defaults:=[],kwarg:=none,defaults:=[] }
def aDd:Expr:=match lamE with
 |.Lambda _ b _ _=>b
 |e=>e
def aER:Scope:=match lamE with
 |.Lambda _ _ s _=>s
 |_=>{ kind:=.function,names:=[],isGenerator:=false,isCoroutine:=false }
def aD9:Pos:=match lamE with
 |.Lambda _ _ _ p=>p
 |_=>⟨0,0,0,0⟩
def aCw:Str:=("houses_out":Str)++".<locals>."++"<lambda>"
abbrev Tab(Pt:Addr)(H:Hp):Prop:=yM aD9 aCw Pt H
def oT(Pt:Addr)(H H':Hp):Prop:=∀b o,H b=some o→b≠Pt→H' b=some o
theorem oT.of{Pt:Addr}{H H':Hp}(a:Same H H'):oT Pt H H':=fun c o h _=>a c o h
theorem Tab.not{Pt:Addr}{H:Hp}(t:Tab Pt H){b:Addr}{o:HO}(h:H b=some o)(n:∀ps,o≠.tbl ps):b≠Pt:=by
 rintro rfl
 rcases t with z|⟨c,z,_⟩ <;> · rw[h] at z;exact n _ (Option.some.inj z)
theorem Tab.same{Pt:Addr}{H H':Hp}(t:Tab Pt H)(e:Same H H'):Tab Pt H':=by
 rcases t with z|⟨c,z,y⟩
 ·exact .inl (e _ _ z)
 ·exact .inr ⟨c,e _ _ z,e _ _ y⟩
theorem aDe{n a b h:Int}(hn:0<n)(a0:0≤a)(a1:a<n)(b0:0≤b)(b1:b<n)(e:(a-h) % n=(b-h) % n):a=b:=by
 have h1:=Int.emod_emod_of_dvd (a-h) (Int.dvd_refl n)
 have q:(a-b) % n=0:=by
  have:a-b=(a-h)-(b-h):=by lia
  rw[this,Int.sub_emod,e,Int.sub_self,Int.zero_emod]
 obtain⟨c,hc⟩:=Int.dvd_of_emod_eq_zero q
 have c0:c=0:=by
  rcases Int.lt_trichotomy c 0 with z|z|z
  ·have:n*c≤n*(-1):=Int.mul_le_mul_of_nonneg_left (by lia) (by lia)
   lia
  ·exact z
  ·have:n*1≤n*c:=Int.mul_le_mul_of_nonneg_left (by lia) (by lia)
   lia
 rw[c0] at hc
 lia
theorem rM{ts:Ts}{h:Int}(nd:ts.Nodup):((ts.filter fun y=>decide (y.1=h)).map (·.2)).Nodup:=by
 refine L2.lC (nd.filter _) fun x hx y hy e=>?_
 have a:=(List.mem_filter.mp hx).2
 have b:=(List.mem_filter.mp hy).2
 simp at a b
 exact Prod.ext (a.trans b.symm) e
theorem aBb{n:Nat}{ts:Ts}{h:Nat}(F:Fine n ts)(hh:h<n){out:List Int}(ko:KOut (h:Int) (n:Int) ((ts.filter fun y=>decide (y.1=(h:Int))).map (·.2)) out):out.map V.int=NV (outN n ts h):=by
 obtain⟨ps,hp,rfl,hs⟩:=ko
 have hout:(ps.map (·.2)).Perm ((ts.filter fun y=>decide (y.1=(h:Int))).map (·.2)):=by
  have:=hp.map (·.2)
  rw[List.map_map] at this
  refine this.trans (List.Perm.of_eq ?_)
  conv=>rhs;rw[← List.map_id ((ts.filter fun y=>decide (y.1=(h:Int))).map (·.2))]
  rfl
 have mem:∀z,z∈ps.map (·.2)↔((h:Int),z)∈ts:=fun z=>by
  rw[hout.mem_iff,List.mem_map]
  constructor
  ·rintro⟨y,hy,rfl⟩
   obtain⟨y1,y2⟩:=List.mem_filter.mp hy
   have:y.1=(h:Int):=by simpa using y2
   rw[← this];exact y1
  ·intro hz
   exact⟨_,List.mem_filter.mpr ⟨hz,by simp⟩,rfl⟩
 have nd:(ps.map (·.2)).Nodup:=hout.nodup_iff.mpr (rM F.nd)
 have key:∀q∈ps,q.1=(q.2-(h:Int)) % (n:Int):=fun q hq=>by
  obtain⟨z,_,e⟩:=List.mem_map.mp (hp.mem_iff.mp hq)
  rw[← e]
 have hn:(0:Int)<n:=by have:=F.n1;lia
 have sorted:(ps.map (·.2)).Pairwise fun x y=>(x-(h:Int)) % (n:Int)<(y-(h:Int)) % (n:Int):=by
  refine List.pairwise_map.mpr ?_
  have nd2:=List.pairwise_map.mp nd
  refine(hs.and nd2).imp_of_mem fun {x y} hx hy hxy=>?_
  have l1:=hxy.1
  rw[key x hx,key y hy] at l1
  have ax:=F.rg _ ((mem x.2).mp (List.mem_map.mpr ⟨x,hx,rfl⟩))
  have ay:=F.rg _ ((mem y.2).mp (List.mem_map.mpr ⟨y,hy,rfl⟩))
  have ne:(x.2-(h:Int)) % (n:Int)≠(y.2-(h:Int)) % (n:Int):=fun z=>hxy.2 (aDe hn ax.2.1 ax.2.2 ay.2.1 ay.2.2 z)
  lia
 have e:ps.map (·.2)=(outN n ts h).map fun (o:Nat)=>(o:Int):=by
  refine mX (k:=fun z=>(z-(h:Int)) % (n:Int)) sorted ?_ fun z=>?_
  ·refine List.pairwise_map.mpr ?_
   exact mW hh
  ·rw[mem,List.mem_map]
   constructor
   ·intro hz
    have r:=F.rg _ hz
    refine⟨z.toNat,(cU F hh).mpr ?_,by lia⟩
    show (((h:Nat):Int),((z.toNat:Nat):Int))∈ts
    rw[show ((z.toNat:Nat):Int)=z by lia];exact hz
   ·rintro⟨o,ho,rfl⟩
    exact(cU F hh).mp ho
 rw[e,List.map_map]
 rfl
section
variable {P:Program} {w:World} {K:PySem.W.Frag} {mg:Str→Option Value} {base:Heap}
theorem aBc:aZ ["many","ties","house","others"] ["many","ties","house"] (aN oR):=⟨rfl,rfl,rfl,by decide +kernel,rfl,by decide +kernel,by decide +kernel⟩
def oU(Pt:Addr):Sp:=fun vs H Q _=>∃ (n:Nat) (l:Addr) (h:Nat) (zs:Zs),vs=[.int n,.ref l,.int h]∧h<n∧eK H l n zs∧Tab Pt H∧
 ∀ (r:Addr) (H':Hp),Tab Pt H'→oT Pt H H'→H r=none→H' r=some (.lst (NV (outN n (zp zs) h)))→Q (.ref r) H'
theorem aDf{f c Pt:Addr}{fd:FuncData}(F:FunC K "houses_out" "houses_out" oR f fd c)(B:Bl mg)(kb:K.In base)(hb:BmOk mg base)(hc:PySem.W.codeHdIn K c Pt=true):
  FnOk P w K mg base CX0 1 f fd ["many","ties","house"] (oU Pt):=by
 refine F.ok aBc (fun vs H Q E h=>?_) (fun A outer s H vs Q E hr h=>?_)
 ·obtain⟨n,l,h,zs,rfl,_⟩:=h
  rfl
 ·obtain⟨n,l,h,zs,rfl,hh,T,tb,k⟩:=h
  have fi:=T.fine
  have n1:=fi.n1
  have hlen:zs.length≤256:=by have:=fi.len;rw[bJ] at this;exact this
  have LS:LamS (cxOf CX0 P w K mg base ["many","ties","house","others"] "houses_out" (aN oR) f (.ref c) A outer s H E).nox aCw aDc aDd aER "other" "house" "many" 2 0:=
   ⟨⟨_,_,_,_,_,rfl⟩,fun _ _ _ _ _=>rfl,rfl,rfl,rfl,rfl,rfl,rfl,rfl,by decide +kernel,by decide +kernel,by decide +kernel,rfl,rfl,rfl,by decide,⟨by decide,by decide⟩,⟨by decide,by decide⟩⟩
  refine'⟨_,aE (cM (i:=3) (g:=gTup K 2 (fW (bG 0) (fW (bG 1) gNil))) (NB:=["one","other","house"]) (src:=[none,none,some 2]) (bH (by kernel_rfl)) rfl (bP (pv 1)) ?g ?t ?e aBc.nd rfl rfl rfl)
   (aJ (bA (aAI (yN LS hr) rfl B.sorted PyProof.Rows.boot_sorted (aA (pv 3) aD) (aCH (aDY (NB:=["other","house","many"]) (src:=[none,some 2,some 0]) (aCS kb hb hc) (bH (by kernel_rfl))) aDT)))),?_⟩
  case g=>exact fun cl C s₃ H₃ fp=>dR (n:=2) rfl (bC (aL (i:=0) nb3 rfl (Or.inl rfl) (Or.inr rfl)) (bC (aL (i:=1) nb3 rfl (Or.inl rfl) (Or.inr rfl)) cR))
  case t=>exact fun cl C s₃ H₃ fp=>dG (aV dM (pv 0) (pv 2) (aX _))
  case e=>exact fun cl C s₃ H₃ fp=>pv 1
  refine⟨_,rfl,l,rfl,⟨_,SqL.of T.at_⟩,fun D hD=>lM (fun σ=>∃a b,σ=[a,b,some (.int (h:Int))]) (·.1) (·.2) (h:Int) hD T.at_ T.po (by lia) ⟨_,_,rfl⟩ ?_ ?_⟩
  ·rintro z σ H3 Kt Kf hj ⟨x,y,rfl⟩ ha kt kf
   refine⟨z.1,_,rfl,SqT.of ha,rfl,_,_,rfl,_,_,rfl,rfl,?_⟩
   refine⟨_,rfl,_,rfl,rfl,_,rfl,?_⟩
   refine ite2 (fun e=>?_) (fun e=>?_)
   ·exact⟨_,rfl,kt _ ⟨_,_,rfl⟩ (by simpa using e)⟩
   ·exact kf _ ⟨_,_,rfl⟩ (by simpa using e)
  ·generalize hos:((zp zs).filter fun y=>decide (y.1=(h:Int))).map (·.2)=os
   have hol:os.length≤8:=by rw[← hos,List.length_map];exact fi.most h
   have sm:Same H (upd H D (.lst (IV os))):=aG hD
   refine⟨_,rfl,tb.same sm,fun f' c' H2 t2' old hc' hf'=>?_⟩
   have t2:Tab Pt H2:=t2'
   have hD2:H2 D=some (.lst (IV os)):=old _ _ aB ((tb.same sm).not aB (by intro ps z;cases z))
   refine⟨D,f',c',os,h,n,rfl,rfl,SqL.of hD2,(by lia),hf',hc',rfl,rfl,by lia,fun r out hr' ko=>?_⟩
   rw[← hos] at ko
   rw[aBb fi hh ko]
   have sm2:Same H2 (upd H2 r (.lst (NV (outN n (zp zs) h)))):=aG hr'
   refine k r _ (t2.same sm2) (fun b o e hb=>sm2 _ _ (old b o (sm _ _ e) hb)) ?_ aB
   cases z:H r with
   |none=>rfl
   |some o=>
    by_cases hP:r=Pt
    ·rcases t2 with q|⟨_,q,_⟩ <;> · rw[← hP,hr'] at q;cases q
    ·rw[old r o (sm _ _ z) hP] at hr';cases hr'
end
end K12
namespace K12
open PySem L2 NetM
abbrev zD:Stmt:=top 23
abbrev uC:Stmt:=top 24
def rowV(n:Nat)(R:List Nat)(f:Nat→Nat):List V:=(List.range n).map fun x=>if x∈R then V.int ((f x:Nat):Int) else .non
theorem iP{n:Nat}{R:List Nat}{f:Nat→Nat}:(rowV n R f).length=n:=by unfold rowV;rw[List.length_map,List.length_range]
theorem iQ{n:Nat}{R:List Nat}{f:Nat→Nat}{x:Nat}(h:x<n):(rowV n R f)[x]?=some (if x∈R then V.int ((f x:Nat):Int) else .non):=by
 unfold rowV
 rw[List.getElem?_map,List.getElem?_range h]
 rfl
theorem zE{n s:Nat}(hs:s<n):(List.replicate n V.non).set s (V.int 0)=rowV n [s] (fun _=>0):=by
 apply List.ext_getElem?
 intro x
 by_cases hx:x<n
 ·rw[iQ hx]
  by_cases e:x=s
  ·subst e
   rw[List.getElem?_set_self (by rw[List.length_replicate];exact hx),if_pos (by simp)]
   rfl
  ·rw[List.getElem?_set_ne (fun z=>e z.symm),List.getElem?_replicate,if_pos hx,if_neg (by simp[e])]
 ·rw[List.getElem?_eq_none (by rw[List.length_set,List.length_replicate];lia),List.getElem?_eq_none (by rw[iP];lia)]
theorem aB1{n v k:Nat}{R:List Nat}{f:Nat→Nat}(hv:v<n):(rowV n R f).set v (V.int ((k:Nat):Int))=rowV n (R++[v]) (put f v k):=by
 apply List.ext_getElem?
 intro x
 by_cases hx:x<n
 ·rw[iQ hx]
  by_cases e:x=v
  ·subst e
   rw[List.getElem?_set_self (by rw[iP];exact hx),if_pos (by simp),fT]
  ·rw[List.getElem?_set_ne (fun z=>e z.symm),iQ hx,dJ e]
   by_cases h:x∈R
   ·rw[if_pos h,if_pos (List.mem_append_left _ h)]
   ·rw[if_neg h,if_neg (fun z=>(List.mem_append.mp z).elim h fun z=>e (by simpa using z))]
 ·rw[List.getElem?_eq_none (by rw[List.length_set,iP];lia),List.getElem?_eq_none (by rw[iP];lia)]
def aES(σ:St):Nat:=match σ[4]? with
 |some (some (V.int z))=>z.toNat
 |_=>0
theorem nbO:(["others"]:List Str).Nodup:=by decide +kernel
def lN(H:Hp)(ol:Addr)(n:Nat)(ts:Ts):Prop:=∃bs:List Addr,H ol=some (.lst (bs.map V.ref))∧Holds H bs n (fun h=>.lst (NV (outN n ts h)))
theorem lN.same{H H':Hp}{ol:Addr}{n:Nat}{ts:Ts}(x:lN H ol n ts)(e:Same H H'):lN H' ol n ts:=let ⟨bs,a,b⟩:=x;⟨bs,e _ _ a,b.mono fun _ _ z=>e _ _ z⟩
theorem aCx{as:List Addr}{i:Nat}{x:V}(h:(as.map V.ref)[i]?=some x):i<as.length∧x=.ref (as.getD i 0):=by
 rw[List.getElem?_map] at h
 cases e:as[i]? with
 |none=>rw[e] at h;cases h
 |some a=>
  rw[e] at h
  refine⟨(List.getElem?_eq_some_iff.mp e).1,?_⟩
  rw[List.getD_eq_getElem?_getD,e]
  exact(Option.some.inj h).symm
section
variable {P:Program} {w:World} {K:PySem.W.Frag} {mg:Str→Option Value} {base:Heap}
theorem iR:aZ ["out_lists","start","distances","reached","at","house","other"] ["out_lists","start"] (aN zD):=⟨rfl,rfl,rfl,by decide +kernel,rfl,by decide +kernel,by decide +kernel⟩
def oW:Sp:=fun vs H Q _=>∃ (ol:Addr) (n s:Nat) (ts:Ts),vs=[.ref ol,.int s]∧Fine n ts∧s<n∧lN H ol n ts∧
 ∀ (r:Addr) (H':Hp),Same H H'→H r=none→H' r=some (.lst (NV ((List.range n).map (far ts s))))→Q (.ref r) H'
theorem aDg{f:Addr}{fd:FuncData}(F:Fun K "distances_from" "distances_from" zD f fd)(B:Bl mg):FnOk P w K mg base CX0 1 f fd ["out_lists","start"] oW:=by
 refine F.ok iR (fun vs H Q E h=>?_) (fun cdv A outer s H vs Q E hr h=>?_)
 ·obtain⟨ol,n,s,ts,rfl,_⟩:=h
  rfl
 ·obtain⟨ol,n,st,ts,rfl,fi,hs,O,k⟩:=h
  have n1:=fi.n1
  have n2:=fi.n2
  refine'⟨_,aE (cM (i:=2) (g:=bG 0) (NB:=["others"]) (src:=[none]) (bH (by kernel_rfl)) rfl (bP (pv 0)) ?g ?t ?e iR.nd rfl rfl rfl)
   (aE (cK aK (eI (pv 2) (pv 1) dA))
   (aE (aO (i:=3) iR.nd rfl (Or.inl rfl) (bU (aA (pv 1) aD)))
   (aE (aO (i:=4) iR.nd rfl (Or.inl rfl) aK)
   (aE (sA PassesOwn.never (aV hJ (pv 4) (aS aW (by rfl) B.len PySem.boot_len (aA (pv 3) aD)) (aX _))
    (aE (aO (i:=5) iR.nd rfl (Or.inl rfl) (aR aP (pv 3) (pv 4) (fun _ _=>rfl)))
    (aE (cA PassesOwn.never rfl (bP (aR aP (pv 0) (pv 5) (fun _ _=>rfl))) (aL (i:=6) iR.nd rfl (Or.inl rfl))
     (aJ (bR (aV sD (aR aP (pv 2) (pv 6) (fun _ _=>rfl)) dQ (aX _))
      (aE (cK (aY cL (aR aP (pv 2) (pv 5) (fun _ _=>rfl)) aK) (eI (pv 2) (pv 6) dA))
      (aJ (bS (cX PySem.F.plainAttrs_list PySem.F.slot_list_append PySem.F.type_list_append cP (pv 3) (aA (pv 6) aD))))) bD)))
    (aJ (aDP (i:=4) iR.nd rfl (Or.inl rfl) aK aDQ)))))
   (aJ (bA (pv 2))))))),?_⟩
  case g=>exact fun cl C s₃ H₃ fp=>aL (i:=0) nbO rfl (Or.inl rfl) (Or.inr rfl)
  case t=>exact fun cl C s₃ H₃ fp=>bZ
  case e=>exact fun cl C s₃ H₃ fp=>dQ
  obtain⟨bs,hol,hbl,hbs⟩:=id O
  refine⟨_,rfl,ol,rfl,⟨_,SqL.of hol⟩,fun D hD=>?_⟩
  have nol:ol≠D:=aH hol hD
  refine cJ (xs:=bs.map V.ref) (fun i ys σ H2=>(∃a,σ=[a])∧ys=List.replicate i V.non∧H2=upd H D (.lst ys)) ⟨⟨_,rfl⟩,rfl,rfl⟩ (fun i ys σ H2 _ ⟨_,_,e⟩=>by rw[e];exact SqL.of (by rw[aF nol];exact hol)) ?_ ?_
  ·rintro i x ys σ H2 Kt Kf hx ⟨⟨a,rfl⟩,rfl,rfl⟩ kt kf
   have hi:=(aCx hx).1
   refine kt _ _ _ aB ?_ ⟨⟨_,rfl⟩,?_,by rw[jE]⟩
   ·rw[List.length_replicate]
    exact Nat.lt_of_lt_of_le hi (by rw[hbl];exact Nat.le_trans n2 (by decide))
   ·rw[List.replicate_succ']
  ·rintro ys σ H2 ⟨_,rfl,rfl⟩
   rw[List.length_map,hbl]
   refine⟨_,rfl,_,rfl,D,_,st,st,rfl,rfl,aB,by rw[List.length_replicate];exact cT hs,?_⟩
   rw[jE,zE hs]
   refine⟨_,rfl,by show 1≤sizeLine;decide,fun R hR=>?_⟩
   have nDR:D≠R:=aH (H:=upd H D (.lst (rowV n [st] (fun _=>0)))) aB hR
   have hR0:H R=none:=by rw[aF nDR.symm] at hR;exact hR
   refine sC (fun σ H2=>∃ (i:Nat) (Rs:List Nat) (f:Nat→Nat),i≤Rs.length∧Bfs n ts st i Rs f∧(∃a b,σ=[some (.ref ol),some (.int st),some (.ref D),some (.ref R),some (.int (i:Int)),a,b])∧Same H H2∧H2 D=some (.lst (rowV n Rs f))∧H2 R=some (.lst (NV Rs)))
    (fun σ _=>n-aES σ) ⟨0,[st],fun _=>0,Nat.zero_le _,Bfs.start hs,⟨none,none,rfl⟩,bE (aG hD) hR0,?_,aB⟩ ?_ ?_
   ·rw[aF nDR,aB]
   ·rintro σ H2 ⟨i,Rs,f,hi,Bf,⟨a,b,rfl⟩,sm,hD2,hR2⟩
    have hRn:Rs.length≤n:=dY Bf.nd Bf.lt
    refine⟨_,rfl,_,rfl,R,_,rfl,.inl (SqL.of hR2),_,_,rfl,rfl,_,rfl,?_⟩
    rw[aU]
    by_cases hin:i<Rs.length
    ·rw[show decide ((i:Int)<((Rs.length:Nat):Int))=true by simp;lia]
     refine iteT ?_
     have hu:Rs[i]?=some Rs[i]:=List.getElem?_eq_getElem hin
     generalize Rs[i]=u at hu
     have hun:u<n:=Bf.lt u (List.mem_of_getElem? hu)
     have huR:(NV Rs)[i]?=some (.int (u:Int)):=by rw[List.getElem?_map,hu];rfl
     refine⟨_,rfl,_,rfl,R,_,_,_,rfl,rfl,SqL.of hR2,aM huR,?_⟩
     have hb1:(bs.map V.ref)[u]?=some (.ref (bs.getD u 0)):=by
      rw[List.getElem?_map,List.getD_eq_getElem?_getD,List.getElem?_eq_getElem (by rw[hbl];exact hun)];rfl
     have hb2:=sm _ _ (hbs _ hun)
     refine⟨_,rfl,_,rfl,ol,_,_,_,rfl,rfl,SqL.of (sm _ _ hol),aM hb1,_,rfl,⟨_,SqL.of hb2⟩,?_⟩
     have nbD:bs.getD u 0≠D:=aH (hbs _ hun) hD
     have nbR:bs.getD u 0≠R:=aH (hbs _ hun) hR0
     refine fP (K:=K) (xs:=NV (outN n ts u)) (fun j σ H3=>∃ (Rs':List Nat) (f':Nat→Nat),Bfs n ts st i Rs' f'∧Rs'[i]?=some u∧(∀v∈(outN n ts u).take j,v∈Rs'∧f' v≤f' u+1)∧
      (∃b,σ=[some (.ref ol),some (.int st),some (.ref D),some (.ref R),some (.int (i:Int)),some (.int (u:Int)),b])∧Same H H3∧H3 D=some (.lst (rowV n Rs' f'))∧H3 R=some (.lst (NV Rs')))
      ⟨Rs,f,Bf,hu,fun v hv=>by simp at hv,⟨_,rfl⟩,sm,hD2,hR2⟩ (fun j σ H3 _ ⟨_,_,_,_,_,_,sm3,_⟩=>SqL.of (sm3 _ _ (hbs _ hun))) ?_ ?_
     ·rintro j x σ H3 hx ⟨Rs',f',Bf',hu',dn,⟨b',rfl⟩,sm3,hD3,hR3⟩
      rw[List.getElem?_map] at hx
      cases hv:(outN n ts u)[j]? with
      |none=>rw[hv] at hx;cases hx
      |some v=>
       rw[hv] at hx
       obtain rfl:V.int ((v:Nat):Int)=x:=Option.some.inj hx
       have hvm:v∈outN n ts u:=List.mem_of_getElem? hv
       have hvn:v<n:=mH fi hun hvm
       have tuv:T ts u v:=(cU fi hun).mp hvm
       have tk:(outN n ts u).take (j+1)=(outN n ts u).take j++[v]:=by rw[List.take_add_one,hv];rfl
       have hun':u∈Rs':=List.mem_of_getElem? hu'
       refine⟨_,rfl,_,rfl,D,_,_,_,rfl,rfl,SqL.of hD3,aM (iQ hvn),rfl,_,rfl,?_⟩
       by_cases hvR:v∈Rs'
       ·rw[if_pos hvR]
        refine iteF ⟨Rs',f',Bf',hu',fun x hx=>?_,⟨_,rfl⟩,sm3,hD3,hR3⟩
        rw[tk] at hx
        rcases List.mem_append.mp hx with z|z
        ·exact dn x z
        ·simp at z;subst z;exact⟨hvR,Bf'.bd u hu' _ hvR⟩
       ·rw[if_neg hvR]
        refine iteT ?_
        have hg2:(rowV n Rs' f')[u]?=some (.int ((f' u:Nat):Int)):=by rw[iQ hun,if_pos hun']
        refine⟨_,rfl,_,rfl,D,_,_,_,rfl,rfl,SqL.of hD3,aM hg2,_,_,rfl,rfl,_,rfl,_,rfl,D,_,_,_,rfl,rfl,hD3,by rw[iP];exact cT hvn,?_⟩
        have e1:(rowV n Rs' f').set v (.int (((f' u:Nat):Int)+1))=rowV n (Rs'++[v]) (put f' v (f' u+1)):=by
         rw[show ((f' u:Nat):Int)+1=((f' u+1:Nat):Int) by lia,aB1 hvn]
        rw[e1]
        have hR4:(upd H3 D (.lst (rowV n (Rs'++[v]) (put f' v (f' u+1))))) R=some (.lst (NV Rs')):=by rw[aF nDR.symm];exact hR3
        have hlen':Rs'.length≤n:=dY Bf'.nd Bf'.lt
        refine⟨_,rfl,.inl ⟨rfl,_,SqL.of hR4⟩,_,rfl,R,_,_,rfl,rfl,hR4,by rw[aU];exact Nat.lt_of_lt_of_le (show Rs'.length<33 by lia) (by decide),?_⟩
        have hi':i<Rs'.length:=(List.getElem?_eq_some_iff.mp hu').1
        have nuv:u≠v:=fun z=>hvR (z ▸ hun')
        refine⟨Rs'++[v],put f' v (f' u+1),Bf'.add hu' hvn tuv hvR,by rw[List.getElem?_append_left hi'];exact hu',fun x hx=>?_,⟨_,rfl⟩,bE (bE sm3 hD) hR0,?_,?_⟩
        ·rw[dJ nuv]
         rw[tk] at hx
         rcases List.mem_append.mp hx with z|z
         ·obtain⟨q1,q2⟩:=dn x z
          exact⟨List.mem_append_left _ q1,by rw[dJ (fun (z:x=v)=>hvR (z ▸ q1))];exact q2⟩
         ·simp at z;subst z
          exact⟨by simp,by rw[fT];exact Nat.le_refl _⟩
        ·rw[aF nDR,aB]
        ·rw[aB];show _=some (HO.lst (NV (Rs'++[v])));rw[show NV (Rs'++[v])=NV Rs'++[.int (v:Int)] by unfold NV;rw[List.map_append];rfl]
     ·rintro σ H3 ⟨Rs',f',Bf',hu',dn,⟨b',rfl⟩,sm3,hD3,hR3⟩
      rw[aU,List.take_length] at dn
      have hi':i<Rs'.length:=(List.getElem?_eq_some_iff.mp hu').1
      have hlen':Rs'.length≤n:=dY Bf'.nd Bf'.lt
      refine⟨_,rfl,_,_,rfl,rfl,⟨⟨i+1,Rs',f',hi',Bf'.next hu' (fun v t=>dn v ((cU fi hun).mpr t)),⟨_,_,rfl⟩,sm3,hD3,hR3⟩,?_⟩⟩
      show n-((i:Int)+1).toNat<n-(i:Int).toNat
      lia
    ·rw[show decide ((i:Int)<((Rs.length:Nat):Int))=false by rw[decide_eq_false_iff_not];lia]
     have e:rowV n Rs f=NV ((List.range n).map (far ts st)):=by
      unfold rowV NV
      rw[List.map_map]
      refine List.map_congr_left fun x hx=>?_
      obtain⟨q1,q2⟩:=Bf.done fi (by lia) (List.mem_range.mp hx)
      rw[if_pos q1,q2];rfl
     rw[e] at hD2
     refine iteF ⟨_,rfl,k D H2 sm hD hD2⟩
   ·rintro σ H2 Q1 Q2 imp ⟨v,e1,v2,e2,p,ys,e3,e4,i1,i2,e5,e6,kk,e7,q⟩
    exact⟨v,e1,v2,e2,p,ys,e3,e4,i1,i2,e5,e6,kk,e7,imp _ _ q⟩
end
end K12
namespace K12
open PySem L2 NetM
theorem aET:(["row"]:List Str).Nodup:=by decide +kernel
section
variable {P:Program} {w:World} {K:PySem.W.Frag} {mg:Str→Option Value} {base:Heap}
theorem aDh:aZ ["distances"] ["distances"] (aN uC):=⟨rfl,rfl,rfl,by decide +kernel,rfl,by decide +kernel,by decide +kernel⟩
def pV:Sp:=fun vs H Q _=>∃ (l:Addr) (ds:List Addr) (n:Nat) (o:Nat→List V),vs=[.ref l]∧H l=some (.lst (ds.map V.ref))∧n≤32∧Holds H ds n (fun j=>.lst (o j))∧(∀j,j<n→∀x∈o j,∃i,x=.int i)∧∀H',Same H H'→Q .non H'
theorem aB2{f:Addr}{fd:FuncData}(F:Fun K "check_reached" "check_reached" uC f fd)(B:Bl mg):FnOk P w K mg base CX0 1 f fd ["distances"] pV:=by
 refine F.ok aDh (fun vs H Q E h=>?_) (fun cdv A outer s H vs Q E hr h=>?_)
 ·obtain⟨l,ds,n,o,rfl,_⟩:=h
  rfl
 ·obtain⟨l,ds,n,o,rfl,hl,n2,hh,hx,k⟩:=h
  refine'⟨_,aJ (bR (eU (aS (aAF rfl) (by rfl) B.any PyProof.Rows.boot_any (aA ?c aD))) eA bD),?_⟩
  case c=>
   refine' bV (g:=bG 0) (te:=tOp (rIn K false) (tC .non) (tVar 0)) (NB:=["row"]) (src:=[none]) (bH (by kernel_rfl)) rfl (bP (pv 0)) ?g ?t ?e
   case g=>exact fun cl C s₃ H₃ fp=>aL (i:=0) aET rfl (Or.inl rfl) (Or.inr rfl)
   case t=>exact fun cl C s₃ H₃ fp=>bZ
   case e=>exact fun cl C s₃ H₃ fp=>iB iV dQ (pv 0) rfl
  refine⟨_,rfl,l,rfl,⟨_,SqL.of hl⟩,fun D hD=>?_⟩
  have nl:l≠D:=aH hl hD
  refine cJ (xs:=ds.map V.ref) (fun i ys σ H2=>(∃a,σ=[a])∧ys=(List.replicate i false).map V.bl∧H2=upd H D (.lst ys)) ⟨⟨_,rfl⟩,rfl,rfl⟩ (fun i ys σ H2 _ ⟨_,_,e⟩=>by rw[e];exact SqL.of (by rw[aF nl];exact hl)) ?_ ?_
  ·rintro i x ys σ H2 Kt Kf hxi ⟨⟨a,rfl⟩,rfl,rfl⟩ kt kf
   obtain⟨hi,rfl⟩:=aCx hxi
   rw[hh.1] at hi
   have hd:=hh.2 i hi
   have nd:ds.getD i 0≠D:=aH hd hD
   have q1:(o i).all dC=true:=List.all_eq_true.mpr fun x hx'=>by obtain⟨z,rfl⟩:=hx i hi x hx';rfl
   have q2:inV .non (o i)=false:=by
    unfold inV
    rw[List.any_eq_false]
    intro x hx'
    obtain⟨z,rfl⟩:=hx i hi x hx'
    exact fun z=>by cases z
   refine⟨_,rfl,_,_,rfl,.inl (SqL.of (by rw[aF nd];exact hd)),rfl,q1,?_⟩
   refine kt _ _ _ aB ?_ ⟨⟨_,rfl⟩,?_,by rw[jE]⟩
   ·rw[List.length_map,List.length_replicate]
    exact Nat.lt_of_lt_of_le hi (Nat.le_trans n2 (by decide))
   ·rw[List.replicate_succ',List.map_append,q2];rfl
  ·rintro ys σ H2 ⟨_,rfl,rfl⟩
   refine⟨D,_,rfl,SqL.of aB,_,rfl,?_⟩
   have e:(List.replicate (ds.map V.ref).length false).any id=false:=by
    rw[List.any_eq_false];intro x hx';rw[(List.mem_replicate.mp hx').2];decide
   rw[e]
   exact iteF (k _ (aG hD))
end
end K12
namespace K12
open PySem L2 NetM
theorem nb2:(["one","other"]:List Str).Nodup:=by decide +kernel
theorem aEU:(["house","many","ties"]:List Str).Nodup:=by decide +kernel
theorem nbHS:(["house","self"]:List Str).Nodup:=by decide +kernel
def hW(p Pt:Addr)(H H':Hp):Prop:=∀b o,H b=some o→b≠p→b≠Pt→H' b=some o
theorem eK.mono{p Pt:Addr}{H H':Hp}{l:Addr}{n:Nat}{zs:Zs}{C dx:Addr}{fs:List (Str×V)}(h:eK H l n zs)(e:hW p Pt H H')(hp:H p=some (.ins C dx fs))(tb:Tab Pt H):eK H' l n zs:=
 ⟨h.fine,e _ _ h.at_ (dL h.at_ hp (by intro z;cases z)) (tb.not h.at_ (by intro ps z;cases z)),fun z hz=>e _ _ (h.po z hz) (dL (h.po z hz) hp (by intro z;cases z)) (tb.not (h.po z hz) (by intro ps z;cases z))⟩
theorem Tab.mono{p Pt C dx:Addr}{fs:List (Str×V)}{H H':Hp}(t:Tab Pt H)(e:∀b o,H b=some o→b≠p→H' b=some o)(hp:H p=some (.ins C dx fs)):Tab Pt H':=by
 rcases t with z|⟨c,z,y⟩
 ·exact .inl (e _ _ z (dL z hp (by intro q;cases q)))
 ·exact .inr ⟨c,e _ _ z (dL z hp (by intro q;cases q)),e _ _ y (dL y hp (by intro q;cases q))⟩
theorem Tab.full{Pt:Addr}{H:Hp}(t:Tab Pt H):H Pt≠none:=by
 rcases t with z|⟨c,z,y⟩ <;> rw[z] <;> intro q <;> cases q
theorem hW.free{p Pt r:Addr}{H H':Hp}(s:hW p Pt H H')(hp:H' p≠none)(tb:Tab Pt H')(h:H' r=none):H r=none:=by
 cases z:H r with
 |none=>rfl
 |some o=>
  by_cases e1:r=p
  ·subst e1;exact absurd h hp
  ·by_cases e2:r=Pt
   ·subst e2;exact absurd h tb.full
   ·rw[s r o z e1 e2] at h;cases h
theorem aEV{σ:St}{H:Hp}{k:List V→Hp→Prop}(h:k [] H):tNil σ H k:=h
theorem iD{H:Hp}{p:Addr}{o:HO}(h:H p=some o):H p≠none:=by rw[h];intro z;cases z
section
variable {P:Program} {w:World} {K:PySem.W.Frag} {mg:Str→Option Value} {base:Heap}
theorem aEa:aZ ["self","many","ties"] ["self","many","ties"] (aN rT):=⟨rfl,rfl,rfl,by decide +kernel,rfl,by decide +kernel,by decide +kernel⟩
def uD(C Pt:Addr):Sp:=fun vs H Q E=>∃ (p dx:Addr) (n:Nat) (l:Addr) (zs:Zs),vs=[.ref p,.int n,.ref l]∧H p=some (.ins C dx [])∧eK H l n zs∧Tab Pt H∧
  ∀H',cQ C H' (fun a=>H a=none) p n (zp zs)→Tab Pt H'→hW p Pt H H'→Q .non H'
theorem aDi{f C Pt:Addr}{fd:FuncData}(F:Fun K "__init__" "Net.__init__" rT f fd)(T:NT K mg C)(B:Bl mg)(CT:Cal P w K mg base CX0 6 "check_ties" ["many","ties"] iC)(CB:Cal P w K mg base CX0 1 "check_balance" ["many","ties"] iC)(HO':Cal P w K mg base CX0 1 "houses_out" ["many","ties","house"] (oU Pt))(DF:Cal P w K mg base CX0 1 "distances_from" ["out_lists","start"] oW)(CR:Cal P w K mg base CX0 1 "check_reached" ["distances"] pV):
  FnOk P w K mg base CX0 7 f fd ["self","many","ties"] (uD C Pt):=by
 refine F.ok aEa (fun vs H Q E h=>?_) (fun cdv A outer s H vs Q E hr h=>?_)
 ·obtain⟨p,dx,n,l,zs,rfl,_⟩:=h
  rfl
 ·have hr1:Room 1 _:=hr.mono (by decide)
  refine'⟨_,aE (bS (aQ CT hr aT (aA (pv 1) (aA (pv 2) aD))))
   (aE (bS (aQ CB hr1 aT (aA (pv 1) (aA (pv 2) aD))))
   (aE (oB (pv 0) (pv 1) rfl)
   (aE (oB (pv 0) (aS yR (by rfl) B.sorted PyProof.Rows.boot_sorted (aA ?c1 aD)) rfl)
   (aE (oB (pv 0) ?c2 rfl)
   (aE (oB (pv 0) ?c3 rfl)
   (aJ (bS (aQ CR hr1 aT (aA (oA (pv 0) rfl) aD))))))))),?_⟩
  case c1=>
   refine' bV (g:=gTup K 2 (fW (bG 0) (fW (bG 1) gNil))) (te:=tTup (bK (tVar 0) (bK (tVar 1) tNil))) (NB:=["one","other"]) (src:=[none,none]) (bH (by kernel_rfl)) rfl (bP (pv 2)) ?g ?t ?e
   case g=>exact fun cl C s₃ H₃ fp=>dR (n:=2) rfl (bC (aL (i:=0) nb2 rfl (Or.inl rfl) (Or.inr rfl)) (bC (aL (i:=1) nb2 rfl (Or.inl rfl) (Or.inr rfl)) cR))
   case t=>exact fun cl C s₃ H₃ fp=>bZ
   case e=>exact fun cl C s₃ H₃ fp=>bT (aA (pv 0) (aA (pv 1) aD))
  case c2=>
   refine' bV (g:=bG 0) (te:=lW (oU Pt) [] E0 (bK (tVar 1) (bK (tVar 2) (bK (tVar 0) tNil)))) (NB:=["house","many","ties"]) (src:=[none,some 1,some 2]) (bH (by kernel_rfl)) rfl (bN rfl B.range (aA (pv 1) aD)) ?g ?t ?e
   case g=>exact fun cl C s₃ H₃ fp=>aL (i:=0) aEU rfl (Or.inl rfl) (Or.inr rfl)
   case t=>exact fun cl C s₃ H₃ fp=>bZ
   case e=>exact fun cl C s₃ H₃ fp=>aQ HO' hr1 aT (aA (pv 1) (aA (pv 2) (aA (pv 0) aD)))
  case c3=>
   refine' bV (g:=bG 0) (te:=lW oW [] E0 (bK (tFld K (tVar 1) "out_lists") (bK (tVar 0) tNil))) (NB:=["house","self"]) (src:=[none,some 0]) (bH (by kernel_rfl)) rfl (bN rfl B.range (aA (pv 1) aD)) ?g ?t ?e
   case g=>exact fun cl C s₃ H₃ fp=>aL (i:=0) nbHS rfl (Or.inl rfl) (Or.inr rfl)
   case t=>exact fun cl C s₃ H₃ fp=>bZ
   case e=>exact fun cl C s₃ H₃ fp=>aQ DF hr1 aT (aA (oA (pv 1) rfl) (aA (pv 0) aD))
  obtain⟨p,dx,n,l,zs,rfl,hp,TT,tb,k⟩:=h
  have fi:=TT.fine
  have n1:=fi.n1
  have n2:=fi.n2
  have hlen:zs.length≤256:=by have:=fi.len;rw[bJ] at this;exact this
  refine⟨_,rfl,_,rfl,n,l,zs,rfl,TT,fun H1 s1=>?_⟩
  refine⟨_,rfl,_,rfl,n,l,zs,rfl,TT.same s1,fun H2 s2=>?_⟩
  have s12:Same H H2:=s1.trans s2
  refine⟨_,rfl,_,rfl,p,C,dx,[],rfl,s12 _ _ hp,T.cl,T.nH,(by show 0<1000;decide),?_⟩
  let G1:Hp:=upd H2 p (.ins C dx (putF "house_count" (.int n) []))
  have d1:hW p Pt H G1:=fun b o e h1 _=>by show upd _ _ _ _=_;rw[aF h1];exact s12 _ _ e
  have g1p:G1 p=some (.ins C dx (putF "house_count" (.int n) [])):=aB
  have TT1:eK G1 l n zs:=TT.mono d1 hp tb
  have tb1:Tab Pt G1:=tb.mono (fun b o e h1=>by show upd _ _ _ _=_;rw[aF h1];exact s12 _ _ e) hp
  refine⟨_,rfl,l,rfl,⟨_,SqL.of TT1.at_⟩,fun D hD=>?_⟩
  refine aBY (fun y=>y) (fun σ=>∃a b,σ=[a,b]) TT1.at_ TT1.po hD (by lia) ⟨_,_,rfl⟩ ?_ ?_
  ·rintro z σ H3 R Kf hz ⟨a,b,rfl⟩ ha kk
   refine⟨_,_,rfl,SqT.of ha,rfl,_,_,rfl,_,_,rfl,rfl,?_⟩
   exact⟨_,rfl,_,rfl,by show 2≤sizeLine;decide,fun t ht=>kk _ _ ⟨_,_,rfl⟩ ht⟩
  ·intro zs2 H3 sm hD3 po3 ez fr2
   rw[List.map_id'] at ez
   have hl2:zs2.length=zs.length:=by rw[← bJ,ez,bJ]
   refine aEV ?_
   refine aC7 hD3 po3 (by lia) (fun u hu=>by have:=(fi.rg u (ez ▸ hu)).2;lia) fun tl zs3 htl pm ord=>?_
   have htlN:H tl=none:=d1.free (iD g1p) tb1 (sm.free htl)
   have fr3:∀z∈zs3,H z.1=none:=fun z hz=>d1.free (iD g1p) tb1 (fr2 z (pm.mem_iff.mp hz))
   have e3p:H3 p=some (.ins C dx (putF "house_count" (.int n) [])):=sm _ _ g1p
   have nptl:p≠tl:=aH e3p htl
   refine⟨_,rfl,p,C,dx,_,rfl,by rw[aF nptl];exact e3p,T.cl,T.nT,by show 1<1000;decide,?_⟩
   let G2:Hp:=upd (upd H3 tl (.lst (zr zs3))) p (.ins C dx (putF "tie_list" (.ref tl) (putF "house_count" (.int n) [])))
   have q2:∀b o,H3 b=some o→b≠p→G2 b=some o:=fun b o e h1=>by
    show upd _ _ _ _=_
    rw[aF h1,aF (aH e htl)];exact e
   have d2:hW p Pt H G2:=fun b o e h1 h2=>q2 _ _ (sm _ _ (d1 _ _ e h1 h2)) h1
   have g2t:G2 tl=some (.lst (zr zs3)):=by show upd _ _ _ _=_;rw[aF nptl.symm,aB]
   have g2o:PO G2 zs3:=fun z hz=>q2 _ _ (po3 z (pm.mem_iff.mp hz)) (dL (po3 z (pm.mem_iff.mp hz)) e3p (by intro z;cases z))
   have g2p:G2 p=some (.ins C dx (putF "tie_list" (.ref tl) (putF "house_count" (.int n) []))):=aB
   have TT2:eK G2 l n zs:=TT.mono d2 hp tb
   have tb2:Tab Pt G2:=tb1.mono (fun b o e h1=>q2 _ _ (sm _ _ e) h1) g1p
   refine⟨_,rfl,n,rfl,by lia,by lia,fun D2 hD2=>?_⟩
   refine eE (n:=n) (lo:=0) (fun i ys σ H4=>(∃a,σ=[a,some (.int n),some (.ref l)])∧∃bs:List Addr,ys=bs.map V.ref∧(∀b∈bs,H b=none)∧Holds H4 bs i (fun h=>.lst (NV (outN n (zp zs) h)))∧oT Pt G2 H4∧Tab Pt H4∧H4 D2=some (.lst ys)∧∀b∈bs,b≠D2)
    ⟨⟨_,rfl⟩,[],rfl,(fun _ h=>nomatch h),Holds.nil,oT.of (aG hD2),tb2.same (aG hD2),aB,(fun _ h=>nomatch h)⟩ ?_ ?_
   ·rintro i ys σ H4 Kt Kf hi ⟨⟨a,rfl⟩,bs,rfl,hbN,hb,sm4,tb4,hD4,hbD⟩ kt kf
    have TT4:eK H4 l n zs:=TT2.mono (p:=p) (fun b o e _ h2=>sm4 _ _ e h2) g2p tb2
    have e4p:=sm4 _ _ g2p (tb2.not g2p (by intro ps z;cases z))
    refine⟨_,rfl,_,rfl,_,rfl,n,l,i,zs,by rw[Int.zero_add];rfl,hi,TT4,tb4,fun r H5 t5 st5 hr4 hr5=>?_⟩
    have hrN:H r=none:=hW.free (fun b o e h1 h2=>sm4 _ _ (d2 _ _ e h1 h2) h2) (iD e4p) tb4 hr4
    have e5D:H5 D2=some (.lst (bs.map V.ref)):=st5 _ _ hD4 (tb4.not hD4 (by intro ps z;cases z))
    have nrD:r≠D2:=by rintro rfl;rw[hD4] at hr4;cases hr4
    have keepD:∀b o ys',H5 b=some o→b≠D2→(upd H5 D2 ys') b=some o:=fun b o ys' e h=>by rw[aF h];exact e
    refine kt _ _ _ e5D (by rw[List.length_map,hb.1];exact Nat.lt_of_lt_of_le hi (Nat.le_trans n2 (by decide))) ⟨⟨_,rfl⟩,bs++[r],by rw[List.map_append];rfl,?_,?_,?_,?_,aB,?_⟩
    ·intro b hb'
     rcases List.mem_append.mp hb' with z|z
     ·exact hbN b z
     ·rw[List.mem_singleton.mp z];exact hrN
    ·refine Holds.snoc (hb.mono fun j hj e=>?_) (keepD _ _ _ hr5 nrD)
     refine keepD _ _ _ (st5 _ _ e (tb4.not e (by intro ps z;cases z))) (hbD _ ?_)
     rw[List.getD_eq_getElem?_getD,List.getElem?_eq_getElem (by rw[hb.1];exact hj)];exact List.getElem_mem _
    ·intro b o e h
     exact keepD _ _ _ (st5 _ _ (sm4 _ _ e h) h) (aH e hD2)
    ·rcases t5 with z|⟨c,z,y⟩
     ·exact .inl (keepD _ _ _ z (dL z e5D (by intro q;cases q)))
     ·exact .inr ⟨c,keepD _ _ _ z (dL z e5D (by intro q;cases q)),keepD _ _ _ y (dL y e5D (by intro q;cases q))⟩
    ·intro b hb'
     rcases List.mem_append.mp hb' with z|z
     ·exact hbD b z
     ·rw[List.mem_singleton.mp z];exact nrD
   ·rintro ys σ H4 ⟨_,bs,rfl,hbN,hb,sm4,tb4,hD4,hbD⟩
    have e4p:H4 p=some (.ins C dx (putF "tie_list" (.ref tl) (putF "house_count" (.int n) []))):=sm4 _ _ g2p (tb2.not g2p (by intro ps z;cases z))
    have hD2N:H D2=none:=d2.free (iD g2p) tb2 hD2
    refine⟨_,rfl,p,C,dx,_,rfl,e4p,T.cl,T.nO,by have h1:=dS "tie_list" (V.ref tl) (putF "house_count" (V.int n) []);have h2:=dS "house_count" (V.int n) [];simp at h2;lia,?_⟩
    let G3:Hp:=upd H4 p (.ins C dx (putF "out_lists" (.ref D2) (putF "tie_list" (.ref tl) (putF "house_count" (.int n) []))))
    have q3:∀b o,H4 b=some o→b≠p→G3 b=some o:=fun b o e h1=>by show upd _ _ _ _=_;rw[aF h1];exact e
    have g3p:G3 p=some (.ins C dx (putF "out_lists" (.ref D2) (putF "tie_list" (.ref tl) (putF "house_count" (.int n) [])))):=aB
    have d3:hW p Pt H G3:=fun b o e h1 h2=>q3 _ _ (sm4 _ _ (d2 _ _ e h1 h2) h2) h1
    have tb3:Tab Pt G3:=tb4.mono q3 e4p
    have hb3:Holds G3 bs n (fun h=>.lst (NV (outN n (zp zs) h))):=hb.mono fun j hj e=>q3 _ _ e (dL e e4p (by intro z;cases z))
    have g3D:G3 D2=some (.lst (bs.map V.ref)):=q3 _ _ hD4 (dL hD4 e4p (by intro z;cases z))
    have O3:lN G3 D2 n (zp zs):=⟨bs,g3D,hb3⟩
    refine⟨_,rfl,n,rfl,by lia,by lia,fun D3 hD3'=>?_⟩
    refine eE (n:=n) (lo:=0) (fun i ys σ H6=>(∃a,σ=[a,some (.ref p)])∧∃ds:List Addr,ys=ds.map V.ref∧(∀b∈ds,H b=none)∧Holds H6 ds i (fun s=>.lst (NV ((List.range n).map (far (zp zs) s))))∧Same G3 H6∧H6 D3=some (.lst ys)∧∀b∈ds,b≠D3)
     ⟨⟨_,rfl⟩,[],rfl,(fun _ h=>nomatch h),Holds.nil,aG hD3',aB,(fun _ h=>nomatch h)⟩ ?_ ?_
    ·rintro i ys σ H6 Kt Kf hi ⟨⟨a,rfl⟩,ds,rfl,hdN,hd,sm6,hD6,hdD⟩ kt kf
     refine⟨_,rfl,p,C,dx,_,_,rfl,sm6 _ _ g3p,T.cl,T.nO,by rw[bY,if_pos rfl],_,rfl,D2,n,i,zp zs,by rw[Int.zero_add];rfl,fi,hi,O3.same sm6,fun r H7 st7 hr6 hr7=>?_⟩
     have e7D:H7 D3=some (.lst (ds.map V.ref)):=st7 _ _ hD6
     have nrD:r≠D3:=by rintro rfl;rw[hD6] at hr6;cases hr6
     have hrN:H r=none:=hW.free (fun b o e h1 h2=>sm6 _ _ (d3 _ _ e h1 h2)) (iD (sm6 _ _ g3p)) (tb3.same sm6) hr6
     have keepD:∀b o ys',H7 b=some o→b≠D3→(upd H7 D3 ys') b=some o:=fun b o ys' e h=>by rw[aF h];exact e
     refine kt _ _ _ e7D (by rw[List.length_map,hd.1];exact Nat.lt_of_lt_of_le hi (Nat.le_trans n2 (by decide))) ⟨⟨_,rfl⟩,ds++[r],by rw[List.map_append];rfl,?_,?_,?_,aB,?_⟩
     ·intro b hb'
      rcases List.mem_append.mp hb' with z|z
      ·exact hdN b z
      ·rw[List.mem_singleton.mp z];exact hrN
     ·refine Holds.snoc (hd.mono fun j hj e=>?_) (keepD _ _ _ hr7 nrD)
      refine keepD _ _ _ (st7 _ _ e) (hdD _ ?_)
      rw[List.getD_eq_getElem?_getD,List.getElem?_eq_getElem (by rw[hd.1];exact hj)];exact List.getElem_mem _
     ·intro b o e
      exact keepD _ _ _ (st7 _ _ (sm6 _ _ e)) (aH e hD3')
     ·intro b hb'
      rcases List.mem_append.mp hb' with z|z
      ·exact hdD b z
      ·rw[List.mem_singleton.mp z];exact nrD
    ·rintro ys σ H6 ⟨_,ds,rfl,hdN,hd,sm6,hD6,hdD⟩
     have e6p:=sm6 _ _ g3p
     refine⟨_,rfl,p,C,dx,_,rfl,e6p,T.cl,T.nD,by have h1:=dS "tie_list" (V.ref tl) (putF "house_count" (V.int n) []);have h2:=dS "house_count" (V.int n) [];have h3:=dS "out_lists" (V.ref D2) (putF "tie_list" (V.ref tl) (putF "house_count" (V.int n) []));simp at h2;lia,?_⟩
     have q4:∀b o u,H6 b=some o→b≠p→(upd H6 p u) b=some o:=fun b o u e h1=>by rw[aF h1];exact e
     refine⟨_,rfl,p,C,dx,_,_,rfl,aB,T.cl,T.nD,by rw[bY,if_pos rfl],D3,ds,n,fun s=>NV ((List.range n).map (far (zp zs) s)),rfl,q4 _ _ _ hD6 (dL hD6 e6p (by intro z;cases z)),n2,hd.mono fun j hj e=>q4 _ _ _ e (dL e e6p (by intro z;cases z)),fun j hj x hx=>?_,fun H8 s8=>?_⟩
     ·obtain⟨y,hy,rfl⟩:=List.mem_map.mp hx
      exact⟨_,rfl⟩
     ·have up:∀b o,G3 b=some o→b≠p→H8 b=some o:=fun b o e h1=>s8 _ _ (q4 _ _ _ (sm6 _ _ e) h1)
      have hD3N:H D3=none:=d3.free (iD g3p) tb3 hD3'
      have upT:∀b o,G2 b=some o→b≠p→b≠Pt→H8 b=some o:=fun b o e h1 h2=>up _ _ (q3 _ _ (sm4 _ _ e h2) h1) h1
      refine k H8 ⟨fi,dx,tl,D2,D3,s8 _ _ aB,hD2N,hD3N,⟨bs,up _ _ g3D (dL g3D g3p (by intro z;cases z)),hbN,hb3.mono fun j hj e=>up _ _ e (dL e g3p (by intro z;cases z))⟩,
       ⟨ds,s8 _ _ (q4 _ _ _ hD6 (dL hD6 e6p (by intro z;cases z))),hdN,hd.mono fun j hj e=>s8 _ _ (q4 _ _ _ e (dL e e6p (by intro z;cases z)))⟩,
       ⟨htlN,zs3,upT _ _ g2t nptl.symm (tb2.not g2t (by intro ps z;cases z)),fun z hz=>upT _ _ (g2o z hz) (dL (g2o z hz) g2p (by intro z;cases z)) (tb2.not (g2o z hz) (by intro ps z;cases z)),fr3,((show (zp zs3).Perm (zp zs2) from pm.map _).trans (List.Perm.of_eq ez)),ord⟩⟩ ?_ fun b o e h1 h2=>up _ _ (d3 _ _ e h1 h2) h1
      exact tb3.mono up g3p
end
end K12
namespace K12
open PySem L2 NetM
theorem gN{xs:List Nat}{x:Nat}:NV xs++[.int (x:Int)]=NV (xs++[x]):=by unfold NV;rw[List.map_append];rfl
theorem kF{xs:List Nat}{i:Nat}{x:V}(h:(NV xs)[i]?=some x):∃y,xs[i]?=some y∧x=.int (y:Int):=by
 unfold NV at h
 rw[List.getElem?_map] at h
 cases e:xs[i]? with
 |none=>rw[e] at h;cases h
 |some z=>rw[e] at h;exact⟨z,rfl,(Option.some.inj h).symm⟩
end K12
namespace L2
open PySem PySem.Spec PyProof.Rows
section
variable {X:Cx}
def EqD(X:Cx)(H:Hp)(d:Nat)(x y:V):Prop:=∀ (pins:List (Addr×Obj)) (s:Shared) (σ:St) (A:Around) (u v:Value),Inv X pins σ H s→A.units+d<cLine→RelV x u→RelV y v→SeqAt.EqAt A s u v true
theorem aDj{H:Hp}{i:Int}:EqD X H 0 (.int i) (.int i):=by
 intro pins s σ A u v I hu rx ry
 have h:=sO (A:=A) (s:=s) rx ry rfl rfl
 rw[show eqV (.int i) (.int i)=true by show decide (i=i)=true;simp] at h
 exact h
theorem aBd{pins:List (Addr×Obj)}{s:Shared}{σ:St}{H:Hp}{A:Around}{d:Nat}{xs ys:List V}{us vs:List Value}(I:Inv X pins σ H s)(hu:A.units+d<cLine)(rx:Vals xs us)(ry:Vals ys vs)(he:∀i,i<xs.length→i<ys.length→EqD X H d (xs.getD i .non) (ys.getD i .non)):∀j (h1:j<us.toArray.size) (h2:j<vs.toArray.size),SeqAt.EqAt A s us.toArray[j] vs.toArray[j] true:=by
 intro j h1 h2
 have j1:j<xs.length:=by rw[rx.length];simpa using h1
 have j2:j<ys.length:=by rw[ry.length];simpa using h2
 have e1:xs[j]?=some (xs.getD j .non):=by rw[List.getD_eq_getElem?_getD,List.getElem?_eq_getElem j1];rfl
 have e2:ys[j]?=some (ys.getD j .non):=by rw[List.getD_eq_getElem?_getD,List.getElem?_eq_getElem j2];rfl
 obtain⟨u,hu1,ru⟩:=rx.get e1
 obtain⟨v,hv1,rv⟩:=ry.get e2
 have eu:us.toArray[j]=u:=by
  have:us[j]?=some us.toArray[j]:=by simp at h1 ⊢
  rw[hu1] at this;exact(Option.some.inj this).symm
 have ev:vs.toArray[j]=v:=by
  have:vs[j]?=some vs.toArray[j]:=by simp at h2 ⊢
  rw[hv1] at this;exact(Option.some.inj this).symm
 rw[eu,ev]
 exact he j j1 j2 pins s σ A u v I hu ru rv
theorem aB3{n:Nat}:(List.range n).all (fun _=>true)=true:=List.all_eq_true.mpr fun _ _=>rfl
def aEW(X:Cx)(neg:Bool)(d:Nat):R2:=fun x y H Q=>∃p q xs ys,x=.ref p∧y=.ref q∧SqL X.K H p xs∧SqL X.K H q ys∧xs.length=ys.length∧(∀i,i<xs.length→i<ys.length→EqD X H d (xs.getD i .non) (ys.getD i .non))∧Q (.bl (!neg)) H
theorem aDk{d:Nat}(hu:X.A.units+(d+1)<cLine):OpR X (compareOp .NotEq) (aEW X true d):=by
 intro pins s σ H x y v u Q I rx ry h
 obtain⟨p,q,xs,ys,rfl,rfl,hp,hq,hl,he,k⟩:=h
 obtain rfl:v=Value.ref p:=rx
 obtain rfl:u=Value.ref q:=ry
 obtain⟨us,r1,p1,_⟩:=I.list hp
 obtain⟨vs,r2,p2,_⟩:=I.list hq
 refine SeqAt.RcNeAt.lists (e:=fun _=>true) p1.isList p2.isList (by simp only[List.size_toArray];rw[← r1.length,← r2.length];exact hl) (by lia) (aBd I (by show X.A.units+1+d<cLine;lia) r1 r2 he) _ _ _ _ ⟨.bl _,H,I,rfl,?_⟩
 rw[aB3]
 exact k
end
end L2
namespace K12
open PySem L2 NetM
section
variable {P:Program} {w:World} {K:PySem.W.Frag} {mg:Str→Option Value} {base:Heap}
end
end K12
namespace L2
open PySem PySem.Spec PyProof.Rows
def kG(P:Program)(w:World)(h:Heap)(vs:List Value)(ps:List (List Key×Addr×Value)):Prop:=vs.length=ps.length∧∀ (i:Nat) (v:Value),vs[i]?=some v→∃ (a:Addr) (o:Obj) (n:Nat) (b:Addr) (k:List Key) (x:Value),v=Value.ref a∧h.get? a=some o∧o.cls=.type "tuple"∧o.data=.seq #[.ref b,x] n∧(tupleKind (bX P w)).is h k b∧ps[i]?=some (k,b,x)
theorem uE{P:Program}{w:World}{h h':Heap}{k:List Key}{b:Addr}(x:(tupleKind (bX P w)).is h k b)(q:∀b o,(∃xs n,o.data=.seq xs n)→h.get? b=some o→h'.get? b=some o):(tupleKind (bX P w)).is h' k b:=by
 obtain⟨o,its,n,h1,h2,h3,h4⟩:=x
 exact⟨o,its,n,q _ _ ⟨_,_,h3⟩ h1,h2,h3,h4⟩
theorem kG.keeps{P:Program}{w:World}{h h':Heap}{vs:List Value}{ps:List (List Key×Addr×Value)}(x:kG P w h vs ps)(k:∀b o,(∃xs n,o.data=.seq xs n)→h.get? b=some o→h'.get? b=some o):kG P w h' vs ps:=
 ⟨x.1,fun i v hv=>let ⟨a,o,n,b,kk,y,e1,e2,e3,e4,e5,e6⟩:=x.2 i v hv;⟨a,o,n,b,kk,y,e1,k a o ⟨_,_,e4⟩ e2,e3,e4,uE e5 k,e6⟩⟩
theorem nM{P:Program}{w:World}{h h':Heap}{d:Addr}{xs:List (List Key×Addr×Value)}(x:h.DictOfH (tupleKind (bX P w)) d xs)(kd:∀o,h.get? d=some o→h'.get? d=some o)(q:∀b o,(∃xs n,o.data=.seq xs n)→h.get? b=some o→h'.get? b=some o):h'.DictOfH (tupleKind (bX P w)) d xs:=by
 obtain⟨o,es,ep,h1,h2,h3,h4,h5,h6⟩:=x
 exact⟨o,es,ep,kd _ h1,h2,h3,h4,fun y hy=>uE (h5 y hy) q,h6⟩
section
variable {prog:Program} {w:World} {A:Around} {E:Value→Shared→Prop} {s:Shared} {R:Result→Shared→Prop} {l d Ia:Addr}
theorem zF{vs:List Value}{ps:List (List Key×Addr×Value)}(hh:A.handled=none)(hu:A.units+4<cLine)(hlD:l≠d)(hlI:l≠Ia)(hdI:d≠Ia):
  ∀ (k i:Nat) (j:Int) (t:Tok) (s:Shared) (kvs:List (List Key×Addr×Value)),vs.length-i=k→i≤vs.length→s.heap.IsListIter Ia l i→s.heap.IsList l vs.toArray→kG prog w s.heap vs ps→s.heap.DictOfH (tupleKind (bX prog w)) d kvs→kvs.length+k≤4096→
   (∀h' tk,(∀b o,b≠d→b≠Ia→s.heap.get? b=some o→h'.get? b=some o)→h'.DictOfH (tupleKind (bX prog w)) d ((ps.drop i).foldl (fun m p=>storedH m p.1 p.2.1 p.2.2) kvs)→R (.ok (.ret .none)) { s with heap:=h',toks:=tk })→
   codeAny (model prog w) A (.builtin "dict.update.loop" ⟨[.ref d,.ref Ia,.int j t,.none],[]⟩) R s:=by
 intro k
 induction k with
 |zero=>
  intro i j t s kvs hk hi hit hl hp hD hz hR
  refine codeAny_builtin mV ?_
  rw[Around.under_plainId gW _]
  show wpAny _ A.in1 (pyNext (.ref Ia) >>= _) _ _ s
  refine wpAny_bind (wpAny_pyNext_list_end (show A.in1.handled=none from hh) hit hl (by simp;lia) fun h' eb=>?_)
  have hd:ps.drop i=[]:=by rw[List.drop_eq_nil_iff];have:=hp.1;lia
  have hR':=hR h' s.toks (fun b o hb hbI e=>eb b o hbI e)
  rw[hd] at hR'
  refine wpAny_bind (wpAny_pure (wpAny_pure (hR' ?_)))
  refine nM hD (fun o e=>eb d o hdI e) fun b o hb e=>eb b o (fun z=>?_) e
  obtain⟨oi,e1,_,d1⟩:=hit
  obtain⟨xs,m,hb⟩:=hb
  rw[z,e1] at e;cases e
  rw[d1] at hb;cases hb
 |succ k ih=>
  intro i j t s kvs hk hi hit hl hp hD hz hR
  have hlt:i<vs.length:=by lia
  refine codeAny_builtin mV ?_
  rw[Around.under_plainId gW _]
  show wpAny _ A.in1 (pyNext (.ref Ia) >>= _) _ _ s
  have hv:vs[i]?=some vs[i]:=List.getElem?_eq_getElem hlt
  refine wpAny_bind (wpAny_pyNext_list_item hit hl (x:=vs[i]) (by simpa using hv) fun h1 hit1 sb1=>?_)
  have neI:∀b ob,(∃xs n,ob.data=.seq xs n)→s.heap.get? b=some ob→b≠Ia:=fun b ob ⟨xs,m,z⟩ e z'=>by
   obtain⟨oi,e1,_,d1⟩:=hit
   rw[z',e1] at e;cases e
   rw[d1] at z;cases z
  have k1:∀b ob,(∃xs n,ob.data=.seq xs n)→s.heap.get? b=some ob→h1.get? b=some ob:=fun b ob hb e=>(sb1.2 b (neI b ob hb e)).trans e
  have hp1:kG prog w h1 vs ps:=hp.keeps k1
  have hD1:h1.DictOfH (tupleKind (bX prog w)) d kvs:=nM hD (fun o e=>(sb1.2 d hdI).trans e) k1
  have hl1:h1.IsList l vs.toArray:=by
   obtain⟨ol,q1,q2⟩:=hl
   exact⟨ol,(sb1.2 l hlI).trans q1,q2⟩
  obtain⟨a,o,n,b,kk,x,ea,eo1,ec,ed,ek,ep⟩:=hp1.2 i _ hv
  rw[ea]
  have neD:∀b ob,(∃xs n,ob.data=.seq xs n)→h1.get? b=some ob→b≠d:=fun b ob ⟨xs,m,z⟩ e z'=>by
   obtain⟨oS,es,ep',q1,_,q4,_⟩:=hD1
   rw[z',q1] at e;cases e
   rw[q4] at z;cases z
  have hT:Shared.TypeIs { s with heap:=h1 } (.ref a) "tuple":=⟨o,eo1,ec⟩
  refine wpAny_bind (wpAny_holding ?_)
  show wpAny _ A.in1 (Sem.tryCatch (Builtin.Dict.pairItems (.ref a)) _ >>= _) _ _ _
  refine wpAny_bind (wpAny_tryCatch ?_)
  unfold Builtin.Dict.pairItems
  refine wpAny_bind (wpAny_typeOf hT ?_)
  rw[if_pos (by decide)]
  refine wpAny_bind (wpAny_seqItems eo1 ed (wpAny_pure ?_))
  show wpAny _ A.in1 (holding [.ref b,x] (dictSet d (.ref b) x)) _ _ _
  refine wpAny_holding (wpAny_dictSet_heap (s:={ s with heap:=h1 }) (show A.in1.units<cLine from by show A.units+1<cLine;lia) ek hD1 (fun h2 hD2 sb2=>?_) (Nat.le_trans (by lia:kvs.length≤4096) (by decide)))
  refine wpAny_pure ⟨plainId_quiet gW _,?_⟩
  have hi2:i<ps.length:=by have:=hp.1;lia
  have hdr:ps.drop i=(kk,b,x)::ps.drop (i+1):=by
   rw[List.drop_eq_getElem_cons hi2]
   have:ps[i]?=some ps[i]:=List.getElem?_eq_getElem hi2
   rw[this] at ep
   rw[Option.some.inj ep]
  have hlen:(storedH kvs kk b x).length≤kvs.length+1:=by
   unfold storedH
   split
   ·rw[List.length_map];lia
   ·rw[List.length_append];simp
  have k2:∀b ob,(∃xs n,ob.data=.seq xs n)→h1.get? b=some ob→h2.get? b=some ob:=fun b ob hb e=>(sb2.2 b (neD b ob hb e)).trans e
  refine ih (i+1) _ _ { s with heap:=h2,toks:=_ } (storedH kvs kk b x) (by lia) hlt ?_ ?_ (hp1.keeps k2) hD2 (by lia) fun h3 tk3 k3 D3=>?_
  ·obtain⟨oi,q1,q2⟩:=hit1
   exact⟨oi,(sb2.2 Ia (Ne.symm hdI)).trans q1,q2⟩
  ·obtain⟨ol,q1,q2⟩:=hl1
   exact⟨ol,(sb2.2 l hlD).trans q1,q2⟩
  ·refine hR h3 tk3 (fun b ob hb hbI e=>k3 b ob hb hbI ((sb2.2 b hb).trans ((sb1.2 b hbI).trans e))) ?_
   rw[hdr]
   exact D3
end
end L2
namespace L2
open PySem PySem.Spec PyProof.Rows
section
variable {prog:Program} {w:World} {A:Around} {E:Value→Shared→Prop} {s:Shared} {l:Addr}
theorem aEb{P:Program}{w:World}(h:Heap):(h.push { cls:=.type "dict",data:=.dict #[] }).DictOfH (tupleKind (bX P w)) h.objs.size []:=
 ⟨_,#[],0,Heap.get?_push_size _ rfl,⟨rfl,rfl,rfl⟩,rfl,rfl,(fun x hx=>nomatch hx),List.nodup_nil⟩
theorem zG{vs:List Value}{n:Nat}{ps:List (List Key×Addr×Value)}{Q:Value→Shared→Prop}(hh:A.handled=none)(hu:A.units+8<cLine)(hl:s.heap.get? l=some { cls:=.type "list",data:=.seq vs.toArray n })(hp:kG prog w s.heap vs ps)(hz:vs.length≤4096)(h:∀h' tk,h'.DictOfH (tupleKind (bX prog w)) s.heap.objs.size (ps.foldl (fun m p=>storedH m p.1 p.2.1 p.2.2) [])→(∀b o,s.heap.get? b=some o→h'.get? b=some o)→Q (.ref s.heap.objs.size) { s with heap:=h',toks:=tk }):
  wpAny (model prog w) A (call (.type "dict") [.ref l]) Q E s:=by
 refine callType_codes (Q₁:=fun obj s₁=>obj=.ref s.heap.objs.size∧s₁={ s with heap:=s.heap.push { cls:=.type "dict",data:=.dict #[] } }) F.kt_called_dict (F.kt_typeCall_dict_1 _) F.entry_dict_init (kt_code_dict_new _ ⟨rfl,rfl⟩) ?_
 rintro obj s₁ ⟨rfl,rfl⟩
 have hnew0:(s.heap.push { cls:=.type "dict",data:=.dict #[] }).DictOf (bX prog w) s.heap.objs.size []:=Heap.DictOf.new s.heap
 have hnew:(s.heap.push { cls:=.type "dict",data:=.dict #[] }).DictOfH (tupleKind (bX prog w)) s.heap.objs.size []:=aEb s.heap
 have hsz:(s.heap.push { cls:=.type "dict",data:=.dict #[] }).objs.size=s.heap.objs.size+1:=Heap.size_push ..
 have up:∀b o,s.heap.get? b=some o→(s.heap.push { cls:=.type "dict",data:=.dict #[] }).get? b=some o:=fun b o e=>Heap.get?_push_of_some _ e
 have hlt:l<s.heap.objs.size:=Heap.lt_size hl
 refine⟨hnew0.typeIs,F.args_dict_init_2 _ _,?_⟩
 generalize (s.heap.push { cls:=.type "dict",data:=.dict #[] })=hD at *
 have hT:Shared.TypeIs { s with heap:=hD } (.ref l) "list":=⟨_,up _ _ hl,rfl⟩
 unfold Builtin.«dict.__init__»
 refine wpAny_bind ?_
 unfold Builtin.Dict.selfAndRest
 refine wpAny_bind (wpAny_notOrdered_dict hnew0.typeIs (wpAny_pure ?_))
 show wpAny _ _ (Builtin.Dict.updateFrom "dict.__init__" s.heap.objs.size (.ref l) [] .none) _ _ _
 unfold Builtin.Dict.updateFrom
 refine wpAny_bind (wpAny_typeOf hT ?_)
 rw[if_pos (by decide)]
 refine wpAny_bind (aD2 (s:={ s with heap:=hD }) (show A.in1.handled=none from hh) (up _ _ hl) fun h1 tk1 k1=>?_)
 have hl1:h1.get? l=some { cls:=.type "list",data:=.seq vs.toArray n }:=k1 _ _ (up _ _ hl)
 have hL1:h1.IsList l vs.toArray:=⟨_,hl1,rfl,n,rfl⟩
 rw[if_pos (by rfl)]
 refine wpAny_bind (wpAny_rule ?_)
 refine wpAny_bind (wpAny_pyIter_list (s:={ s with heap:=h1,toks:=tk1 }) hL1 ?_)
 have hDI:s.heap.objs.size<h1.objs.size:=by
  obtain⟨o,es,ep,q1,q2⟩:=hnew
  exact Heap.lt_size (k1 _ _ q1)
 refine wpAny_pure ⟨plainId_quiet gW _,?_⟩
 refine zF (l:=l) (vs:=vs) (ps:=ps) (Ia:=h1.objs.size) (show A.in1.handled=none from hh) (show A.units+1+4<cLine by lia) (Nat.ne_of_lt hlt) (Nat.ne_of_lt (Nat.lt_trans hlt hDI)) (Nat.ne_of_lt hDI) vs.length 0 0 0 _ [] (by simp) (Nat.zero_le _) ⟨_,Heap.get?_push_size _ rfl,rfl,rfl⟩ ?_ ?_ ?_ (by simpa using hz) fun h2 tk2 k2 D2=>?_
 ·exact⟨_,Heap.get?_push_of_some _ hl1,rfl,n,rfl⟩
 ·exact hp.keeps fun b o _ e=>Heap.get?_push_of_some _ (k1 _ _ (up _ _ e))
 ·exact nM hnew (fun o e=>Heap.get?_push_of_some _ (k1 _ _ e)) fun b o _ e=>Heap.get?_push_of_some _ (k1 _ _ e)
 ·refine⟨rfl,h h2 tk2 D2 fun b o e=>k2 b o (Nat.ne_of_lt (Heap.lt_size e)) (Nat.ne_of_lt (Nat.lt_trans (Heap.lt_size e) hDI)) (Heap.get?_push_of_some _ (k1 _ _ (up _ _ e)))⟩
end
abbrev TK:=List Key×Addr×V
def cN(m:List (List Key×V))(ps:List TK):List (List Key×V):=ps.foldl (fun m p=>putK m p.1 p.2.2) m
inductive KP (H:Hp):List TK→List (List Key×Addr×Value)→Prop where
 |nil:KP H [] []
 |cons {k:List Key} {b:Addr} {v:V} {u:Value} {ps:List TK} {us:List (List Key×Addr×Value)} (hb:H b=some (.tup (k.map kV))) (r:RelV v u) (t:KP H ps us):KP H ((k,b,v)::ps) ((k,b,u)::us)
theorem KP.fold{H:Hp}:∀ {ps:List TK} {us:List (List Key×Addr×Value)} {m:List (List Key×V)} {m':List (List Key×Addr×Value)},KP H ps us→KT H m m'→KT H (cN m ps) (us.foldl (fun m p=>storedH m p.1 p.2.1 p.2.2) m')
 |[],_,_,_,.nil,r=>r
 |(k,b,v)::ps,_,m,m',.cons (us:=us) hb rv t,r=>by
  have:=KP.fold (ps:=ps) (us:=us) t (r.put k hb rv)
  exact this
theorem mZ:∀ (ps:List TK) (m:List (List Key×V)),(cN m ps).length≤m.length+ps.length
 |[],m=>by show m.length≤_;simp
 |p::ps,m=>by
  have h1:=mZ ps (putK m p.1 p.2.2)
  have h2:=vI m p.1 p.2.2
  show (cN (putK m p.1 p.2.2) ps).length≤_
  rw[List.length_cons];lia
theorem uF{P:Program}{w:World}{H:Hp}{h:Heap}(ok:HOk P w H h):∀ (ts:List Addr) (ps:List TK),ts.length=ps.length→(∀i,i<ps.length→∃k b v,ps[i]?=some (k,b,v)∧H (ts.getD i 0)=some (.tup [.ref b,v])∧H b=some (.tup (k.map kV)))→
  ∃us:List (List Key×Addr×Value),KP H ps us∧kG P w h (ts.map Value.ref) us
 |[],[],_,_=>⟨[],.nil,rfl,fun i v hv=>by simp at hv⟩
 |[],_::_,e,_=>by simp at e
 |_::_,[],e,_=>by simp at e
 |t::ts,(k,b,v)::ps,e,hs=>by
  obtain⟨us,r,T⟩:=uF ok ts ps (by simpa using e) fun i hi=>by
   obtain⟨k',b',v',h1,h2,h3⟩:=hs (i+1) (by simp;lia)
   exact⟨k',b',v',by simpa using h1,by simpa using h2,h3⟩
  obtain⟨k0,b0,v0,g1,g2,g3⟩:=hs 0 (by simp)
  have g1':(k,b,v)=(k0,b0,v0):=by simpa using g1
  cases g1'
  have g2':H t=some (.tup [.ref b,v]):=by simpa using g2
  obtain⟨_,its,rv,o,q1,q2,n,q3⟩:=ok t _ g2'
  cases rv with
  |cons ra rr=>
   cases rr with
   |cons rb rr2=>
    cases rr2
    rename_i ka vb
    obtain rfl:ka=Value.ref b:=ra
    refine⟨(k,b,vb)::us,.cons g3 rb r,by simp[T.1],fun i x hx=>?_⟩
    cases i with
    |zero=>
     have hx':Value.ref t=x:=by simpa using hx
     exact⟨t,o,n,b,k,vb,hx'.symm,q1,q2,q3.1,jK ok g3,rfl⟩
    |succ i=>exact T.2 i x (by simpa using hx)
section
variable {X:Cx}
def aEc:List V→Hp→VK→Prop:=fun xs H Q=>∃ (l:Addr) (ts:List Addr) (ps:List TK),xs=[.ref l]∧H l=some (.lst (ts.map V.ref))∧ts.length=ps.length∧(∀i,i<ps.length→∃k b v,ps[i]?=some (k,b,v)∧H (ts.getD i 0)=some (.tup [.ref b,v])∧H b=some (.tup (k.map kV)))∧ps.length≤4096∧
 ∀D,H D=none→Q (.ref D) (upd H D (.dT (cN [] ps)))
theorem zH(hc:X.calm=true)(hu:X.A.units+8<cLine):cW X (.type "dict") aEc:=by
 intro pins s σ H xs us Q I r h
 obtain⟨l,ts,ps,rfl,hl,hlen,ht,hz,q⟩:=h
 obtain⟨u1,rfl,r1⟩:=r.one
 obtain rfl:u1=Value.ref l:=r1
 obtain⟨z,its,n,rv,_,e⟩:=I.lstM hl
 have hits:its=ts.map Value.ref:=pN rv
 subst hits
 obtain⟨vs,kv,T⟩:=uF I.hok ts ps hlen ht
 refine zG (I.ok.hd hc) hu e T (by rw[List.length_map,hlen];exact hz) fun h' tk D k=>?_
 have hs:sysModules<s.heap.objs.size:=Nat.lt_trans (by decide:sysModules<mainGlobals) (I.mod.glob.keeps I.bk).lt
 have nf:=I.hok.fresh (Nat.le_refl s.heap.objs.size)
 have I2:Inv X pins σ (upd H s.heap.objs.size (.dT (cN [] ps))) { s with heap:=h',toks:=tk }:=by
  obtain⟨o,es,ep,h1,h2,h3,h4,_,h6⟩:=D
  refine I.laidN (t':=tk) k (Heap.get?_none_of_le (Nat.le_refl _)) ⟨?_,?_,_,KT.keeps (KP.fold kv .nil) fun b ys eb=>?_,o,es,ep,h1,h2,h3,h4,h6⟩
  ·have:=mZ ps []
   exact Nat.le_trans this (Nat.le_trans (by simpa using hz) (by decide:4096≤sizeLine))
  ·rw[beq_eq_false_iff_ne]
   exact Nat.ne_of_gt hs
  ·rw[aF (aH eb nf)];exact eb
 exact⟨.ref s.heap.objs.size,_,I2,rfl,q _ nf⟩
end
end L2
namespace L2
open PySem PySem.Spec PyProof.Rows
section
variable {X:Cx}
end
end L2
namespace NetM
abbrev deg(ts:Ts)(h:Int):Nat:=(ts.filter fun t=>decide (t.1=h)).length
theorem pW{ts us:Ts}{h:Int}:deg (ts++us) h=deg ts h+deg us h:=by unfold deg;rw[List.filter_append,List.length_append]
theorem mN{a b h:Int}:deg [(a,b),(b,a)] h=(if a=h then 1 else 0)+(if b=h then 1 else 0):=by
 unfold deg
 by_cases c1:a=h <;> by_cases c2:b=h <;> simp[c1,c2]
theorem aDl{ps:Ts}{a b h:Int}:deg (dbl (ps++[(a,b)])) h=deg (dbl ps) h+((if a=h then 1 else 0)+(if b=h then 1 else 0)):=by
 rw[hV,pW]
 exact congrArg _ mN
theorem aDm{a b:Int}:dbl [(a,b)]=[(a,b),(b,a)]:=rfl
theorem aDn{n:Nat}{a b:Nat}(ha:a<n)(hb:b<n)(hab:a≠b):Pre n [(ci a,ci b),(ci b,ci a)]:=by
 have ne:ci a≠ci b:=fun e=>hab (Int.ofNat.inj e)
 refine⟨?_,?_,?_,?_,?_⟩
 ·rw[List.nodup_cons]
  refine⟨fun h=>?_,by simp⟩
  have:=List.mem_singleton.mp h
  exact ne (congrArg Prod.fst this)
 ·intro t ht
  rcases List.mem_cons.mp ht with rfl|ht
  ·exact⟨⟨by lia,by lia⟩,⟨by lia,by lia⟩⟩
  ·rw[List.mem_singleton.mp ht];exact⟨⟨by lia,by lia⟩,⟨by lia,by lia⟩⟩
 ·intro t ht
  rcases List.mem_cons.mp ht with rfl|ht
  ·exact ne
  ·rw[List.mem_singleton.mp ht];exact fun e=>ne e.symm
 ·intro h
  by_cases c1:ci a=h <;> by_cases c2:ci b=h <;> simp[c1,c2]
 ·intro h
  have:=mN (a:=ci a) (b:=ci b) (h:=h)
  show deg [(ci a,ci b),(ci b,ci a)] h≤8
  rw[this]
  split <;> split <;> lia
theorem Fine.pair{n:Nat}{ps:Ts}{a b:Nat}(F:Fine n (dbl ps))(ha:a<n)(hb:b<n)(hab:a≠b)(h1:(ci a,ci b)∉ps)(h2:(ci b,ci a)∉ps)(d1:deg (dbl ps) (ci a)≤7)(d2:deg (dbl ps) (ci b)≤7):Fine n (dbl (ps++[(ci a,ci b)])):=by
 rw[hV,aDm]
 have ne:ci a≠ci b:=fun e=>hab (Int.ofNat.inj e)
 refine F.app (mJ F.pre (aDn ha hb hab) (fun t ht=>?_) fun h=>?_)
 ·rcases List.mem_cons.mp ht with rfl|ht
  ·exact fun z=>(jO.mp z).elim h1 h2
  ·rw[List.mem_singleton.mp ht]
   exact fun z=>(jO.mp z).elim h2 h1
 ·show deg (dbl ps) h+deg [(ci a,ci b),(ci b,ci a)] h≤8
  rw[mN]
  have m:=F.most h
  by_cases c1:ci a=h
  ·subst c1
   rw[if_pos rfl,if_neg (fun e=>ne e.symm)];lia
  ·by_cases c2:ci b=h
   ·subst c2
    rw[if_neg c1,if_pos rfl];lia
   ·rw[if_neg c1,if_neg c2];exact m
theorem rF:∀ {ps:Ts} {h:Int},(∀u∈ps,u.1≠u.2)→(ps.filter fun u=>decide (u.1=h)||decide (u.2=h)).length=deg (dbl ps) h
 |[],_,_=>rfl
 |u::ps,h,hn=>by
  have ih:=rF (ps:=ps) (h:=h) fun v hv=>hn v (List.mem_cons_of_mem _ hv)
  have hu:=hn u List.mem_cons_self
  have e:dbl (u::ps)=[u,swp u]++dbl ps:=rfl
  rw[e,pW,List.filter_cons,← ih]
  obtain⟨a,b⟩:=u
  have d:deg [(a,b),swp (a,b)] h=(if a=h then 1 else 0)+(if b=h then 1 else 0):=mN
  rw[d]
  have hab:a≠b:=hu
  by_cases c1:a=h
  ·have c2:¬ b=h:=fun z=>hab (c1.trans z.symm)
   simp[c1,c2];lia
  ·by_cases c2:b=h
   ·simp[c1,c2];lia
   ·simp[c1,c2]
theorem aDo{n:Nat}{ts:Ts}(P:Pre n ts):Pre n (ts.map swp):=by
 have fl:∀h:Int,((ts.map swp).filter fun t=>decide (t.1=h)).length=(ts.filter fun t=>decide (t.2=h)).length:=fun h=>by
  rw[List.filter_map,List.length_map];rfl
 have fl2:∀h:Int,((ts.map swp).filter fun t=>decide (t.2=h)).length=(ts.filter fun t=>decide (t.1=h)).length:=fun h=>by
  rw[List.filter_map,List.length_map];rfl
 refine⟨?_,fun t ht=>?_,fun t ht=>?_,fun h=>?_,fun h=>?_⟩
 ·refine List.pairwise_map.mpr (P.nd.imp fun {x y} hxy e=>hxy ?_)
  have e1:=congrArg Prod.fst e
  have e2:=congrArg Prod.snd e
  exact Prod.ext e2 e1
 ·obtain⟨u,hu,rfl⟩:=List.mem_map.mp ht
  exact⟨(P.rg u hu).2,(P.rg u hu).1⟩
 ·obtain⟨u,hu,rfl⟩:=List.mem_map.mp ht
  exact fun e=>P.ne u hu e.symm
 ·rw[fl,fl2,P.bal]
 ·rw[fl,← P.bal];exact P.most h
theorem aEd{m k:Nat}(h:3≤m)(hk:k<m):pk m (pk m k)≠k:=by
 unfold pk
 split <;> split <;> lia
theorem vS{n:Nat}{xs:List Nat}(n1:3≤n)(n2:n≤32)(pm:xs.Perm (List.range n)):Fine n (dbl (cyc xs)):=by
 have F:=rE (by lia) n2 pm
 have nd:xs.Nodup:=pm.nodup_iff.mpr List.nodup_range
 have hl:xs.length=n:=by rw[pm.length_eq,List.length_range]
 have lt:∀x∈xs,x<n:=fun x hx=>List.mem_range.mp (pm.mem_iff.mp hx)
 obtain⟨P,one⟩:=pQ nd lt (by lia)
 have Q:=aDo P
 refine Fine.perm ?_ eX
 refine F.app (mJ P Q (fun t ht hm=>?_) fun h=>?_)
 ·obtain⟨u,hu,rfl⟩:=List.mem_map.mp ht
  obtain⟨k,hk,rfl⟩:=jN hu
  obtain⟨j,hj,e⟩:=jN hm
  have e1:xs.getD k 0=xs.getD (pk xs.length j) 0:=Int.ofNat.inj (congrArg Prod.fst e)
  have e2:xs.getD (pk xs.length k) 0=xs.getD j 0:=Int.ofNat.inj (congrArg Prod.snd e)
  have pj:=mI hj
  have pk':=mI hk
  rw[cY hk,cY pj] at e1
  rw[cY pk',cY hj] at e2
  have i1:=lJ nd hk pj e1
  have i2:=lJ nd pk' hj e2
  rw[← i2] at i1
  exact aEd (by lia) hk i1.symm
 ·have o1:=one h
  have e:((cyc xs).map swp).filter (fun t=>decide (t.1=h))=((cyc xs).filter fun t=>decide (t.2=h)).map swp:=by rw[List.filter_map];rfl
  rw[e,List.length_map,← P.bal]
  lia
theorem vT{ps:Ts}:(dbl (ps.map swp)).Perm (dbl ps):=by
 have e:(ps.map swp).map swp=ps:=by
  rw[List.map_map]
  conv=>rhs;rw[← List.map_id ps]
  exact List.map_congr_left fun u _=>rfl
 refine eX.trans ?_
 rw[e]
 exact List.perm_append_comm.trans eX.symm
def cyc2(xs:List Nat):Ts:=(List.range xs.length).map fun k=>(ci (xs.getD k 0),ci (xs.getD ((k+1) % xs.length) 0))
theorem aB4{m:Nat}:((List.range m).map fun k=>(k+1) % m).Perm (List.range m):=by
 cases m with
 |zero=>exact List.Perm.refl _
 |succ m=>
  rw[List.range_succ,List.map_append,List.map_singleton,Nat.mod_self]
  have e:(List.range m).map (fun k=>(k+1) % (m+1))=(List.range m).map (·+1):=List.map_congr_left fun k hk=>Nat.mod_eq_of_lt (by have:=List.mem_range.mp hk;lia)
  rw[e]
  refine List.perm_append_comm.trans ?_
  rw[← List.range_succ,List.range_succ_eq_map]
  exact List.Perm.refl _
theorem lO{xs:List Nat}:(cyc2 xs).Perm (cyc xs):=by
 have h:=(aB4 (m:=xs.length)).map fun k=>(ci (xs.getD (pk xs.length k) 0),ci (xs.getD k 0))
 rw[List.map_map] at h
 refine List.Perm.trans (List.Perm.of_eq ?_) h
 unfold cyc2
 refine List.map_congr_left fun k hk=>?_
 have hk':=List.mem_range.mp hk
 have:pk xs.length ((k+1) % xs.length)=k:=by
  by_cases c:k+1=xs.length
  ·rw[c,Nat.mod_self];unfold pk;rw[if_pos rfl];lia
  ·rw[Nat.mod_eq_of_lt (by lia)];unfold pk;rw[if_neg (by lia)];lia
 show _=(ci (xs.getD (pk xs.length ((k+1) % xs.length)) 0),ci (xs.getD ((k+1) % xs.length) 0))
 rw[this]
theorem Fine.round{n:Nat}{ts:Ts}{xs:List Nat}(F:Fine n ts)(nd:xs.Nodup)(lt:∀x∈xs,x<n)(c2:2≤xs.length)(hf:∀x∈xs,deg ts (ci x)≤7)(hn:∀t∈cyc2 xs,t∉ts):Fine n (ts++cyc2 xs):=by
 have P:=aAY F.pre nd lt c2 (fun t ht=>?_) (fun t ht=>hn t (lO.mem_iff.mpr ht))
 ·exact(F.app P).perm (List.Perm.append_left _ lO)
 ·obtain⟨k,hk,rfl⟩:=jN ht
  exact hf _ (lI (mI hk))
end NetM
namespace K12
open PySem L2 NetM
abbrev sPot:Stmt:=top 26
abbrev zI:Stmt:=top 27
abbrev uG:Stmt:=top 28
structure Bl2(mg:Str→Option Value):Prop where
 abs:mg "abs"=none
 divmod:mg "divmod"=none
 dict:mg "dict"=none
 zip:mg "zip"=none
 repr:mg "repr"=none
theorem lP{e:V→V→Bool}:∀ {xs:List V},eS e xs []=decide (xs=[])
 |[]=>rfl
 |x::xs=>by simp[eS]
def bB(H:Hp)(p:Addr):Prop:=∃a b:Int,H p=some (.lst [.int a,.int b])∧0≤a∧0≤b∧b<4294967296
theorem bB.same{H H':Hp}{p:Addr}(h:bB H p)(s:Same H H'):bB H' p:=let ⟨a,b,e,r⟩:=h;⟨a,b,s _ _ e,r⟩
theorem bB.full{H:Hp}{p:Addr}(h:bB H p):H p≠none:=by obtain⟨a,b,e,_⟩:=h;rw[e];intro z;cases z
theorem bB.ne{H:Hp}{p q:Addr}(h:bB H p)(e:H q=none):q≠p:=by rintro rfl;exact h.full e
theorem bB.put{H:Hp}{p q:Addr}{o:HO}(h:bB H p)(n:p≠q):bB (upd H q o) p:=let ⟨a,b,e,r⟩:=h;⟨a,b,by rw[aF n];exact e,r⟩
theorem bB.neT{H:Hp}{p q:Addr}{xs:List V}(h:bB H p)(e:H q=some (.tup xs)):q≠p:=by rintro rfl;obtain⟨a,b,z,_⟩:=h;rw[e] at z;cases z
theorem PO.sameE{H H':Hp}{p:Addr}{zs:Zs}(h:PO H zs)(s:aI p H H')(hp:bB H p):PO H' zs:=fun z hz=>s _ _ (h z hz) (hp.neT (h z hz))
theorem _root_.L2.SqL.same{K:PySem.W.Frag}{H H':Hp}{a:Addr}{xs:List V}(h:SqL K H a xs)(s:Same H H'):SqL K H' a xs:=by
 rcases h with (h|⟨o,h⟩)|h
 ·exact .inl (.inl (s _ _ h))
 ·exact .inl (.inr ⟨o,s _ _ h⟩)
 ·exact .inr h
theorem lQ:(["_law_k","_law_left","_law_pot_here"]:List Str).Nodup:=by decide +kernel
section
variable {P:Program} {w:World} {K:PySem.W.Frag} {mg:Str→Option Value} {base:Heap}
theorem oX:aZ ["_law_script","_law_k","_law_cell","_law_rest"] ["_law_script","_law_k"] (aN sPot):=⟨rfl,rfl,rfl,by decide +kernel,rfl,by decide +kernel,by decide +kernel⟩
def zJ(K:PySem.W.Frag):Sp:=fun vs H Q _=>∃ (a:Addr) (ns:List Int) (k:Nat),vs=[.ref a,.int k]∧SqL K H a (ns.map V.int)∧k<64∧∀ (r:Addr) (H':Hp),Same H H'→H r=none→bB H' r→Q (.ref r) H'
theorem aEe{f:Addr}{fd:FuncData}(F:Fun K "_law_pot" "_law_pot" sPot f fd)(B:Bl mg)(B2:Bl2 mg):FnOk P w K mg base CX0 1 f fd ["_law_script","_law_k"] (zJ K):=by
 refine F.ok oX (fun vs H Q E h=>?_) (fun cdv A outer s H vs Q E hr h=>?_)
 ·obtain⟨a,ns,k,rfl,_⟩:=h
  rfl
 ·obtain⟨a,ns,k,rfl,hS,hk,q⟩:=h
  refine⟨_,(aE (cK (bT (aA aK (aA aK aD))) (dR (n:=2) rfl (bC (aL (i:=2) oX.nd rfl (Or.inl rfl)) (bC (aL (i:=3) oX.nd rfl (Or.inl rfl)) cR))))
   (aE (bR (aV (sZ (e:=eqV) hr.u) (pv 0) (bU aD) (aX _)) (aJ (aO (i:=2) oX.nd rfl (Or.inl rfl) (aS aBu (by rfl) B2.abs PyProof.Rows.boot_abs (aA (aR aP (pv 0) (aY eJ (pv 1) (aS aW (by rfl) B.len PySem.boot_len (aA (pv 0) aD))) (fun _ _=>rfl)) aD)))) bD)
   (aE (bR (aV hJ (pv 1) (aS aW (by rfl) B.len PySem.boot_len (aA (pv 0) aD)) (aX _)) (aJ (aO (i:=3) oX.nd rfl (Or.inl rfl) (aS (iU rfl) (by rfl) B.max PyProof.Rows.boot_max (aA aK (aA (aY jI (pv 2) (aY aDR aK aK)) aD))))) bD)
   (aJ (bA (bU (aA (pv 3) (aA (aY cL (aY cL (aY eJ (aY fX (aY cL (aY eJ (pv 2) aK) aK) (aY cL (pv 1) aK)) aK) (aY fX aK (pv 1))) aK) aD)))))))),?_⟩
  refine⟨by show 2≤sizeLine;decide,fun T0 hT0=>⟨T0,_,rfl,SqT.of aB,rfl,_,_,rfl,_,_,rfl,rfl,?_⟩⟩
  have sT:=aG (o:=.tup [.int 0,.int 0]) hT0
  dsimp only
  refine gX (fun σ Hc=>Same H Hc∧∃c:Int,0≤c∧σ=[some (.ref a),some (.int k),some (.int c),some (.int 0)]) ?_ ?_
  ·rintro σ Hc ⟨sc,c,c0,rfl⟩
   have m0:0≤c % 2147483579:=Int.emod_nonneg _ (by decide)
   have m1:c % 2147483579<2147483579:=Int.emod_lt_of_pos _ (by decide)
   refine gX (fun σ Hd=>Hd=Hc∧∃d:Int,0≤d∧σ=[some (.ref a),some (.int k),some (.int c),some (.int d)]) ?_ ?_
   ·rintro σ Hd ⟨rfl,d,d0,rfl⟩
    refine⟨_,rfl,_,rfl,_,_,rfl,rfl,(by show (0:Int)<2147483579;decide),_,_,rfl,rfl,_,rfl,_,_,rfl,rfl,_,_,rfl,rfl,.inl ⟨by lia,by lia⟩,_,_,rfl,rfl,(by show (0:Int)<2147483579;decide),_,rfl,_,_,rfl,rfl,.inl ⟨by decide,by decide⟩,_,_,rfl,rfl,_,_,rfl,rfl,by show 2≤sizeLine;decide,fun r hr'=>?_⟩
    have v0:0≤(c % 2147483579+1)*((k:Int)+1) % 2147483579:=Int.emod_nonneg _ (by decide)
    have v1:(c % 2147483579+1)*((k:Int)+1) % 2147483579<2147483579:=Int.emod_lt_of_pos _ (by decide)
    refine q r _ (sc.trans (aG hr')) (sc.free hr') ⟨_,_,aB,d0,?_,?_⟩
    ·generalize (c % 2147483579+1)*((k:Int)+1) % 2147483579=z at *
     lia
    ·generalize (c % 2147483579+1)*((k:Int)+1) % 2147483579=z at *
     lia
   ·intro N hN
    refine⟨_,rfl,_,rfl,a,_,rfl,.inl (hS.same sc),_,_,rfl,rfl,_,rfl,ite2 (fun e=>?_) (fun e=>hN _ _ ⟨rfl,0,by decide,rfl⟩)⟩
    exact⟨_,rfl,_,_,rfl,rfl,⟨by decide,by decide,by decide⟩,_,_,rfl,rfl,0,_,rfl,hN _ _ ⟨rfl,_,by split <;> lia,rfl⟩⟩
  ·intro N hN
   refine⟨_,rfl,by show 0≤sizeLine;decide,fun E1 hE1=>?_⟩
   have sE:=sT.trans (aG (o:=.lst []) hE1)
   have S1:=hS.same sE
   refine⟨a,E1,_,[],rfl,rfl,S1,SqL.of aB,fun i h1 h2=>absurd h2 (by simp),_,rfl,?_⟩
   rw[if_pos rfl,lP]
   by_cases e:ns.map V.int=[]
   ·rw[decide_eq_true e]
    exact iteF (hN _ _ ⟨sE,0,by decide,rfl⟩)
   ·rw[decide_eq_false e]
    have hl:0<ns.length:=by
     rcases ns with _|⟨x,xs⟩
     ·exact absurd rfl e
     ·simp
    have hm:k % ns.length<ns.length:=Nat.mod_lt _ hl
    refine iteT ⟨_,rfl,_,rfl,_,rfl,a,_,rfl,.inl S1,_,_,rfl,rfl,(by show (0:Int)<(((ns.map V.int).length:Nat):Int);rw[List.length_map];lia),a,_,_,.int ns[k % ns.length],rfl,rfl,S1,?_,_,rfl,hN _ _ ⟨sE,_,?_,rfl⟩⟩
    ·rw[List.length_map]
     have:((k:Int) % ((ns.length:Nat):Int))=((k % ns.length:Nat):Int):=rfl
     rw[this]
     exact aM (by rw[List.getElem?_map,List.getElem?_eq_getElem hm];rfl)
    ·split <;> lia
theorem aBe:aZ ["_law_pot_here","_law_many","_law_digit"] ["_law_pot_here","_law_many"] (aN zI):=⟨rfl,rfl,rfl,by decide +kernel,rfl,by decide +kernel,by decide +kernel⟩
def dZ:Sp:=fun vs H Q _=>∃ (p:Addr) (m:Nat),vs=[.ref p,.int m]∧0<m∧m<1000000∧bB H p∧∀ (d:Nat) (H':Hp),d<m→aI p H H'→bB H' p→Q (.int d) H'
theorem aDp{f:Addr}{fd:FuncData}(F:Fun K "_law_take" "_law_take" zI f fd)(B2:Bl2 mg):FnOk P w K mg base CX0 1 f fd ["_law_pot_here","_law_many"] dZ:=by
 refine F.ok aBe (fun vs H Q E h=>?_) (fun cdv A outer s H vs Q E hr h=>?_)
 ·obtain⟨p,m,rfl,_⟩:=h
  rfl
 ·obtain⟨p,m',rfl,m0',m1',⟨a,b,hp,a0,b0,b1⟩,q'⟩:=h
  generalize hm:((m':Nat):Int)=m
  have m0:0<m:=by lia
  have m1:m<1000000:=by lia
  have q:∀ (d a b:Int) (H':Hp),0≤d→d<m→0≤a→0≤b→b<4294967296→aI p H H'→H' p=some (.lst [.int a,.int b])→Q (.int d) H':=fun d a b H' h1 h2 h3 h4 h5 h6 h7=>by
   have:=q' d.toNat H' (by lia) h6 ⟨a,b,h7,h3,h4,h5⟩
   rw[Int.toNat_of_nonneg h1] at this
   exact this
  refine⟨_,(aE (bR (aV nY (aR aP (pv 0) aK (fun _ _=>rfl)) aK (aX _)) (aE (cK (aS vA (by rfl) B2.divmod PyProof.Rows.boot_divmod (aA (aR aP (pv 0) aK (fun _ _=>rfl)) (aA (pv 1) aD))) (dR (n:=2) rfl (bC (eI (pv 0) aK dA) (bC (aL (i:=2) aBe.nd rfl (Or.inl rfl)) cR))))
    (aJ (bA (pv 2)))) bD)
   (aE (cK (aY eJ (aY cL (aY fX (aR aP (pv 0) aK (fun _ _=>rfl)) aK) aK) aK) (eI (pv 0) aK dA))
   (aJ (bA (aY eJ (aY pJ (aY eJ (aY fX (aR aP (pv 0) aK (fun _ _=>rfl)) (aR aP (pv 0) aK (fun _ _=>rfl))) aK) aK) (pv 1)))))),?_⟩
  have g0:atI [V.int a,V.int b] 0=some (.int a):=aM (j:=0) rfl
  have g1:atI [V.int a,V.int b] 1=some (.int b):=aM (j:=1) rfl
  refine⟨_,rfl,p,_,_,_,rfl,rfl,SqL.of hp,g0,_,_,rfl,rfl,_,rfl,?_⟩
  refine ite2 (fun e=>?_) (fun e=>?_)
  ·refine⟨_,rfl,p,_,_,_,rfl,rfl,SqL.of hp,g0,_,rfl,_,_,rfl,⟨m0,by lia⟩,fun t ht=>?_⟩
   have npt:p≠t:=aH hp ht
   refine⟨t,_,rfl,SqT.of aB,rfl,_,_,rfl,?_⟩
   refine⟨_,rfl,p,_,0,0,rfl,rfl,by rw[aF npt];exact hp,cT (j:=0) (by show 0<2;decide),_,_,rfl,rfl,_,rfl,?_⟩
   exact q _ _ _ _ (Int.emod_nonneg _ (by lia)) (Int.emod_lt_of_pos _ m0) (Int.ediv_nonneg a0 (by lia)) b0 b1 (fun c o e n=>by rw[aF n,aF (aH e ht)];exact e) aB
  ·refine⟨_,rfl,p,_,_,_,rfl,rfl,SqL.of hp,g1,_,_,rfl,rfl,.inl ⟨by lia,by lia⟩,_,_,rfl,rfl,_,_,rfl,rfl,(by show (0:Int)<2147483587;decide),?_⟩
   refine⟨_,rfl,p,_,1,1,rfl,rfl,hp,cT (j:=1) (by show 1<2;decide),?_⟩
   have c0:0≤(b*48283+10007) % 2147483587:=Int.emod_nonneg _ (by decide)
   have c1:(b*48283+10007) % 2147483587<2147483587:=Int.emod_lt_of_pos _ (by decide)
   refine⟨_,rfl,p,_,_,_,rfl,rfl,SqL.of aB,aM (j:=1) rfl,_,rfl,p,_,_,_,rfl,rfl,SqL.of aB,aM (j:=1) rfl,_,_,rfl,rfl,.inl ⟨by lia,by lia⟩,_,_,rfl,rfl,(by show (0:Int)<2147483549;decide),_,_,rfl,rfl,⟨by decide,by decide⟩,_,rfl,_,_,rfl,rfl,m0,?_⟩
   exact q _ _ _ _ (Int.emod_nonneg _ (by lia)) (Int.emod_lt_of_pos _ m0) a0 c0 (by lia) aI.upd aB
theorem iS:∀ {xs:List Nat} {k:Nat},(NV xs).eraseIdx k=NV (xs.eraseIdx k)
 |[],_=>rfl
 |x::xs,0=>rfl
 |x::xs,k+1=>congrArg (V.int (x:Nat)::·) (iS (xs:=xs) (k:=k))
theorem oY:∀ {ls:List Nat} {k:Nat} (hk:k<ls.length),(ls[k]::ls.eraseIdx k).Perm ls
 |x::xs,0,_=>List.Perm.refl _
 |x::xs,k+1,h=>(List.Perm.swap x _ _).trans ((oY (ls:=xs) (k:=k) (by simpa using h)).cons x)
theorem aB5{xs ls:List Nat}{k v:Nat}{r:List Nat}(p:(xs++ls).Perm r)(h:ls[k]?=some v):(xs++[v]++ls.eraseIdx k).Perm r:=by
 refine List.Perm.trans ?_ p
 rw[List.append_assoc]
 refine List.Perm.append_left _ ?_
 obtain⟨hk,e⟩:=List.getElem?_eq_some_iff.mp h
 subst e
 exact oY hk
theorem xH:aZ ["_law_pot_here","_law_many","_law_left"] ["_law_pot_here","_law_many"] (aN uG):=⟨rfl,rfl,rfl,by decide +kernel,rfl,by decide +kernel,by decide +kernel⟩
def iE:Sp:=fun vs H Q _=>∃ (p:Addr) (m:Nat),vs=[.ref p,.int m]∧m≤32∧bB H p∧∀ (r:Addr) (xs:List Nat) (H':Hp),aI p H H'→bB H' p→H r=none→H' r=some (.lst (NV xs))→xs.Perm (List.range m)→Q (.ref r) H'
theorem aB6{f:Addr}{fd:FuncData}(F:Fun K "_law_order" "_law_order" uG f fd)(B:Bl mg)(D:Cal P w K mg base CX0 1 "_law_take" ["_law_pot_here","_law_many"] dZ):FnOk P w K mg base CX0 2 f fd ["_law_pot_here","_law_many"] iE:=by
 refine F.ok xH (fun vs H Q E h=>?_) (fun cdv A outer s H vs Q E hr h=>?_)
 ·obtain⟨p,m,rfl,_⟩:=h
  rfl
 ·obtain⟨p,m,rfl,hm,hp,q⟩:=h
  refine'⟨_,(aE (aO (i:=2) xH.nd rfl (Or.inr rfl) (cD (yL rfl) (by rfl) B.lst PyProof.Rows.boot_list (aA (cD vG (by rfl) B.range PyProof.Rows.boot_range (aA (pv 1) aD)) aD)))
   (aJ (bA ?c1))),?_⟩
  case c1=>
   refine' bV (g:=(bG 0)) (te:=(tBM K "list" aAo (tVar 1) (bK (lW dZ [] E0 (bK (tVar 2) (bK (tCB (fun xs H Q=>∃p ys,xs=[V.ref p]∧(SqL K H p ys∨SqT K H p ys)∧Q (.int ys.length) H) (bK (tVar 1) tNil)) tNil))) tNil))) (NB:=["_law_k","_law_left","_law_pot_here"]) (src:=[none,some 2,some 0]) (bH (by kernel_rfl)) rfl (bN rfl B.range (aA (pv 1) aD)) ?g ?t ?e
   case g=>exact fun cl C s₃ H₃ fp=>(aL (i:=0) lQ rfl (Or.inl rfl) (Or.inr rfl))
   case t=>exact fun cl C s₃ H₃ fp=>bZ
   case e=>exact fun cl C s₃ H₃ fp=>(cX PySem.F.plainAttrs_list PySem.F.slot_list_pop PySem.F.type_list_pop nA (pv 1) (aA (aQ D hr aT (aA (pv 2) (aA (aS aW (by rfl) B.len PySem.boot_len (aA (pv 1) aD)) aD))) aD))
  refine⟨_,rfl,m,rfl,fun R hR=>⟨R,m,rfl,aB,by lia,fun L hL=>?_⟩⟩
  have s0:Same H (upd (upd H R (.rng 0 m)) L (.lst (NV (List.range m)))):=(aG hR).trans (aG hL)
  have hLH:H L=none:=(aG hR).free hL
  refine⟨_,rfl,m,rfl,by lia,by lia,fun D' hD=>?_⟩
  have hDH:H D'=none:=s0.free hD
  have npL:L≠p:=hp.ne hLH
  have npD:D'≠p:=hp.ne hDH
  have nLD:L≠D':=aH aB hD
  refine eE (n:=m) (lo:=0) (fun i ys σ H2=>(∃k,σ=[k,some (.ref L),some (.ref p)])∧aI p H H2∧bB H2 p∧∃ls xs:List Nat,H2 L=some (.lst (NV ls))∧H2 D'=some (.lst ys)∧ys=NV xs∧(xs++ls).Perm (List.range m)∧xs.length=i)
   ⟨⟨_,rfl⟩,aI.of (s0.trans (aG hD)),(hp.same s0).same (aG hD),List.range m,[],by rw[aF nLD,aB],aB,rfl,List.Perm.refl _,rfl⟩ ?_ ?_
  ·rintro i ys σ H2 Kt Kf hi ⟨⟨k',rfl⟩,sm,hp2,ls,xs,hL2,hD2,rfl,pm,xl⟩ kt kf
   have ll:ls.length=m-i:=by have:=pm.length_eq;rw[List.length_append,List.length_range] at this;lia
   refine⟨_,rfl,.inl ⟨rfl,_,SqL.of hL2⟩,_,rfl,_,rfl,L,_,rfl,.inl (SqL.of hL2),p,_,rfl,by rw[aU];lia,by rw[aU];lia,hp2,fun d H3 hd s3 hp3=>?_⟩
   rw[aU] at hd
   have hv:ls[d]?=some ls[d]:=List.getElem?_eq_getElem hd
   refine⟨L,_,(d:Int),d,.int (ls[d]:Nat),rfl,rfl,s3 _ _ hL2 npL,by lia,by lia,(jJ (cT (by rw[aU];exact hd))).1,by unfold NV;rw[List.getElem?_map,hv];rfl,?_⟩
   refine kt _ _ _ (by rw[aF nLD.symm];exact s3 _ _ hD2 npD) (by rw[aU,xl];exact Nat.lt_of_lt_of_le (show i<33 by lia) (by decide)) ⟨⟨_,rfl⟩,fun b o e n=>?_,?_,ls.eraseIdx d,xs++[ls[d]],by rw[aF nLD,aB,iS],aB,by rw[gN],aB5 pm hv,by rw[List.length_append,xl];rfl⟩
   ·rw[aF (aH e hDH),aF (aH e hLH)]
    exact s3 _ _ (sm _ _ e n) n
   ·exact(hp3.put npL.symm).put npD.symm
  ·rintro ys σ H2 ⟨_,sm,hp2,ls,xs,hL2,hD2,rfl,pm,xl⟩
   have ll:ls=[]:=by
    have:=pm.length_eq
    rw[List.length_append,List.length_range,xl] at this
    exact List.length_eq_zero_iff.mp (by lia)
   subst ll
   rw[List.append_nil] at pm
   exact q D' xs H2 sm hp2 hDH hD2 pm
end
end K12
namespace K12
open PySem L2 NetM
abbrev zK:Stmt:=top 29
abbrev zL:Stmt:=top 30
theorem vU:(["_law_one","_law_many"]:List Str).Nodup:=by decide +kernel
theorem gO{α:Type}{x:α}:∀ {k:Nat},(List.replicate k [x]).flatten=List.replicate k x
 |0=>rfl
 |k+1=>by rw[List.replicate_succ,List.flatten_cons,gO,List.replicate_succ];rfl
theorem iX{A B:Prop}{b:Bool}(hb:b=true)(h:A):if b=true then A else B:=by rw[if_pos hb];exact h
theorem kH{A B:Prop}{b:Bool}(hb:b=false)(h:B):if b=true then A else B:=by rw[if_neg (by rw[hb];decide)];exact h
def iY(H:Hp)(D:Addr)(ts:Ts)(H2:Hp):Prop:=Same H H2∧∃zs:Zs,H2 D=some (.lst (zr zs))∧PO H2 zs∧zp zs=ts
theorem pX{lo:Int}{n:Nat}{D:Addr}{g:TG}{tt:TT}{te:TE}{fin:Hp→Prop}{σB:St}{H0:Hp}(c:Nat→Bool)(shape:St→Prop)(hD:H0 D=none)(hn:n≤1000)(h0:shape σB)(hs:∀x σ H (Kt:V→St→Hp→Prop) (Kf:St→Hp→Prop),x<n→shape σ→Same H0 H→(∀σ2 H2,shape σ2→Same H H2→c x=true→Kt (.int (lo+(x:Nat))) σ2 H2)→(∀σ2 H2,shape σ2→Same H H2→c x=false→Kf σ2 H2)→
   g (.int (lo+(x:Nat))) σ H fun σ2 H2=>tt σ2 H2 fun b H3=>if b=true then te σ2 H3 fun v H4=>Kt v σ2 H4 else Kf σ2 H3)(hd:∀H,Same H0 H→H D=some (.lst (((List.range n).filter c).map fun (x:Nat)=>V.int (lo+(x:Int))))→fin H):dN (Itr lo n) g tt te D fin σB (upd H0 D (.lst [])):=by
 refine eE (fun i ys σ H=>shape σ∧Same H0 H∧H D=some (.lst ys)∧ys=((List.range i).filter c).map fun (x:Nat)=>V.int (lo+(x:Int))) ⟨h0,aG hD,aB,rfl⟩ ?_ ?_
 ·rintro i ys σ H Kt Kf hi ⟨sh,sm,hDl,rfl⟩ kt kf
  refine hs i σ H Kt Kf hi sh sm (fun σ2 H2 sh2 s2 e=>?_) (fun σ2 H2 sh2 s2 e=>?_)
  ·refine kt _ _ _ (s2 _ _ hDl) ?_ ⟨sh2,bE (sm.trans s2) hD,aB,?_⟩
   ·rw[List.length_map]
    refine Nat.lt_of_le_of_lt (List.length_filter_le _ _) ?_
    rw[List.length_range]
    exact Nat.lt_of_lt_of_le (show i<1000 by lia) (by decide)
   ·rw[List.range_succ,List.filter_append,List.map_append]
    simp[List.filter_cons,e]
  ·refine kf _ _ ⟨sh2,sm.trans s2,s2 _ _ hDl,?_⟩
   rw[List.range_succ,List.filter_append]
   simp[List.filter_cons,e]
 ·rintro ys σ H ⟨_,sm,hDl,rfl⟩
  exact hd H sm hDl
theorem jR:∀ {xs:List Nat} {j x:Nat},(NV xs).set j (.int (x:Int))=NV (xs.set j x)
 |[],_,_=>rfl
 |y::ys,0,x=>rfl
 |y::ys,j+1,x=>congrArg (V.int (y:Int)::·) (jR (xs:=ys) (j:=j) (x:=x))
theorem cZ{xs:List Nat}{j:Nat}(h:j<xs.length):(NV xs)[j]?=some (.int ((xs.getD j 0:Nat):Int)):=by
 unfold NV
 rw[List.getElem?_map,List.getD_eq_getElem?_getD,List.getElem?_eq_getElem h];rfl
def degL(n:Nat)(ps:Ts):List Nat:=(List.range n).map fun (h:Nat)=>deg (dbl ps) (ci h)
theorem gQ{n:Nat}{ps:Ts}:(degL n ps).length=n:=by unfold degL;rw[List.length_map,List.length_range]
theorem nN{n:Nat}{ps:Ts}{h:Nat}(hh:h<n):(degL n ps).getD h 0=deg (dbl ps) (ci h):=by
 unfold degL
 rw[List.getD_eq_getElem?_getD,List.getElem?_map,List.getElem?_range hh];rfl
theorem aB7{n:Nat}{ps:Ts}{a b:Nat}(ha:a<n)(hb:b<n)(hab:a≠b):((degL n ps).set a (deg (dbl ps) (ci a)+1)).set b (deg (dbl ps) (ci b)+1)=degL n (ps++[(ci a,ci b)]):=by
 have ne:∀x y:Nat,ci x=ci y→x=y:=fun x y e=>Int.ofNat.inj e
 refine List.ext_getElem? fun i=>?_
 by_cases hi:i<n
 ·have g:∀qs:Ts,(degL n qs)[i]?=some (deg (dbl qs) (ci i)):=fun qs=>by unfold degL;rw[List.getElem?_map,List.getElem?_range hi];rfl
  rw[g,aDl,List.getElem?_set,List.getElem?_set,g,List.length_set,gQ]
  by_cases c1:b=i
  ·subst c1
   rw[if_pos rfl,if_pos hb,if_neg (fun z=>hab (ne _ _ z)),if_pos rfl,Nat.zero_add]
  ·rw[if_neg c1,if_neg (fun z=>c1 (ne _ _ z))]
   by_cases c2:a=i
   ·subst c2
    rw[if_pos rfl,if_pos ha,if_pos rfl]
   ·rw[if_neg c2,if_neg (fun z=>c2 (ne _ _ z))];rfl
 ·rw[List.getElem?_eq_none (by rw[List.length_set,List.length_set,gQ];lia),List.getElem?_eq_none (by rw[gQ];lia)]
theorem aB8{n:Nat}:List.replicate n (V.int 0)=NV (degL n []):=by
 refine List.ext_getElem? fun i=>?_
 unfold NV degL
 rw[List.map_map,List.getElem?_replicate,List.getElem?_map]
 by_cases hi:i<n
 ·rw[if_pos hi,List.getElem?_range hi];rfl
 ·rw[if_neg hi,List.getElem?_eq_none (by rw[List.length_range];lia)];rfl
section
variable {P:Program} {w:World} {K:PySem.W.Frag} {mg:Str→Option Value} {base:Heap}
theorem oZ:aZ ["_law_pairs","_law_ties","_law_one","_law_other"] ["_law_pairs"] (aN zK):=⟨rfl,rfl,rfl,by decide +kernel,rfl,by decide +kernel,by decide +kernel⟩
def uH:Sp:=fun vs H Q _=>∃ (l:Addr) (zs:Zs),vs=[.ref l]∧H l=some (.lst (zr zs))∧PO H zs∧zs.length≤1000∧∀ (r:Addr) (zs':Zs) (H':Hp),Same H H'→H r=none→H' r=some (.lst (zr zs'))→PO H' zs'→zp zs'=dbl (zp zs)→Q (.ref r) H'
theorem aDq{f:Addr}{fd:FuncData}(F:Fun K "_law_both" "_law_both" zK f fd):FnOk P w K mg base CX0 1 f fd ["_law_pairs"] uH:=by
 refine F.ok oZ (fun vs H Q E h=>?_) (fun cdv A outer s H vs Q E hr h=>?_)
 ·obtain⟨l,zs,rfl,_⟩:=h
  rfl
 ·obtain⟨l,zs,rfl,hl,po,hz,q⟩:=h
  refine⟨_,(aE (aO (i:=1) oZ.nd rfl (Or.inl rfl) (bU aD))
   (aE (cA PassesOwn.never rfl (bP (pv 0)) (dR (n:=2) rfl (bC (aL (i:=2) oZ.nd rfl (Or.inl rfl)) (bC (aL (i:=3) oZ.nd rfl (Or.inl rfl)) cR)))
    (aJ (bS (cX PySem.F.plainAttrs_list PySem.F.slot_list_extend PySem.F.type_list_extend kS (pv 1) (aA (bU (aA (bT (aA (pv 2) (aA (pv 3) aD))) (aA (bT (aA (pv 3) (aA (pv 2) aD))) aD))) aD)))))
   (aJ (bA (pv 1))))),?_⟩
  refine⟨by show 0≤sizeLine;decide,fun D hD=>?_⟩
  have s0:=aG (o:=.lst []) hD
  refine⟨_,rfl,l,rfl,⟨_,SqL.of (s0 _ _ hl)⟩,fP (K:=K) (xs:=zr zs) (fun i σ H2=>(∃x y,σ=[some (.ref l),some (.ref D),x,y])∧iY H D (dbl ((zp zs).take i)) H2) ⟨⟨_,_,rfl⟩,s0,[],aB,PO.nil,rfl⟩ (fun i σ H2 _ z=>SqL.of (z.2.1 _ _ hl)) ?_ ?_⟩
  ·rintro i x σ H2 hx ⟨⟨x',y',rfl⟩,sm,zs2,hD2,po2,ez⟩
   obtain⟨z,hz',rfl⟩:=jQ hx
   have hi:i<zs.length:=(List.getElem?_eq_some_iff.mp hz').1
   have hzz:=sm _ _ (po z (List.mem_of_getElem? hz'))
   obtain⟨za,a,b⟩:=z
   refine⟨za,_,rfl,SqT.of hzz,rfl,_,_,rfl,_,_,rfl,rfl,?_⟩
   refine⟨_,rfl,.inl ⟨rfl,_,SqL.of hD2⟩,_,rfl,_,rfl,by show 2≤sizeLine;decide,fun t1 h1=>⟨_,rfl,_,rfl,by show 2≤sizeLine;decide,fun t2 h2=>⟨by show 2≤sizeLine;decide,fun L hL=>?_⟩⟩⟩
   have u1:=aG (o:=prT (a,b)) h1
   have u2:=aG (o:=prT (b,a)) h2
   have u3:=aG (o:=.lst [.ref t1,.ref t2]) hL
   have g1:=u3 _ _ (u2 _ _ (aB (H:=H2) (a:=t1) (o:=prT (a,b))))
   have g2:=u3 _ _ (aB (H:=upd H2 t1 (prT (a,b))) (a:=t2) (o:=prT (b,a)))
   have s3:=(u1.trans u2).trans u3
   have hl2:zs2.length=2*i:=by
    have:=congrArg List.length ez
    rw[bJ,fU,List.length_take,bJ] at this
    lia
   have gD:=s3 _ _ hD2
   refine⟨D,L,_,_,rfl,rfl,gD,aB,?_,⟨_,_,rfl⟩,bE (sm.trans s3) hD,zs2++[(t1,(a,b)),(t2,(b,a))],?_,?_,?_⟩
   ·rw[cF,hl2]
    exact Nat.le_trans (show 2*i+2≤2002 by lia) (by decide)
   ·rw[aB,dE];rfl
   ·refine PO.putL (xs:=zr zs2) ((po2.same s3).append fun z hz=>?_) gD
    rcases List.mem_cons.mp hz with rfl|hz
    ·exact g1
    ·rw[List.mem_singleton.mp hz];exact g2
   ·rw[dF,ez]
    have tk:(zp zs).take (i+1)=(zp zs).take i++[(a,b)]:=by
     rw[List.take_add_one]
     unfold zp
     rw[List.getElem?_map,hz'];rfl
    rw[tk,hV];rfl
  ·rintro σ H2 ⟨⟨x',y',rfl⟩,sm,zs2,hD2,po2,ez⟩
   rw[cF,← bJ,List.take_length] at ez
   exact⟨_,rfl,q D zs2 H2 sm hD hD2 po2 ez⟩
theorem jS:aZ ["_law_pot_here","_law_n","_law_pairs","_law_many","_law_house","_law_some","_law_one"] ["_law_pot_here","_law_n"] (aN zL):=⟨rfl,rfl,rfl,by decide +kernel,rfl,by decide +kernel,by decide +kernel⟩
def iT:Sp:=fun vs H Q _=>∃ (p:Addr) (n:Nat),vs=[.ref p,.int n]∧2≤n∧n≤32∧bB H p∧∀ (r:Addr) (zs:Zs) (H':Hp),aI p H H'→bB H' p→H r=none→H' r=some (.lst (zr zs))→PO H' zs→Fine n (dbl (zp zs))→(∀u∈zp zs,u.1<u.2)→Q (.ref r) H'
theorem aDr{f:Addr}{fd:FuncData}(F:Fun K "_law_tree" "_law_tree" zL f fd)(B:Bl mg)(D:Cal P w K mg base CX0 1 "_law_take" ["_law_pot_here","_law_many"] dZ):FnOk P w K mg base CX0 2 f fd ["_law_pot_here","_law_n"] iT:=by
 refine F.ok jS (fun vs H Q E h=>?_) (fun cdv A outer s H vs Q E hr h=>?_)
 ·obtain⟨p,n,rfl,_⟩:=h
  rfl
 ·obtain⟨p,n,rfl,n1,n2,hp,q⟩:=h
  refine'⟨_,(aE (aO (i:=2) jS.nd rfl (Or.inl rfl) (bU aD))
   (aE (aO (i:=3) jS.nd rfl (Or.inr rfl) (aY kT (bU (aA aK aD)) (pv 1)))
   (aE (cA PassesOwn.never rfl (kP rfl B.range (aA aK (aA (pv 1) aD))) (aL (i:=4) jS.nd rfl (Or.inl rfl))
    (aE (cM (i:=5) (g:=(bG 0)) (tt:=(fL (tOp (rI0 fun i j=>.bl (decide (i<j))) (tOp (rIxL K) (tVar 1) (tVar 0)) (tC (.int 8))))) (te:=(tVar 0)) (NB:=["_law_one","_law_many"]) (src:=[none,some 3]) (bH (by kernel_rfl)) rfl (bN rfl B.range (aA (pv 4) aD)) ?g1 ?t1 ?e1 jS.nd rfl rfl rfl)
    (aE (aO (i:=6) jS.nd rfl (Or.inl rfl) (aR aP (pv 5) (aQ D hr aT (aA (pv 0) (aA (aS aW (by rfl) B.len PySem.boot_len (aA (pv 5) aD)) aD))) (fun _ _=>rfl)))
    (aE (bS (cX PySem.F.plainAttrs_list PySem.F.slot_list_append PySem.F.type_list_append cP (pv 2) (aA (bT (aA (pv 6) (aA (pv 4) aD))) aD)))
    (aE (cK (aY cL (aR aP (pv 3) (pv 6) (fun _ _=>rfl)) aK) (eI (pv 3) (pv 6) dA))
    (aJ (cK (aY cL (aR aP (pv 3) (pv 4) (fun _ _=>rfl)) aK) (eI (pv 3) (pv 4) dA))))))))
   (aJ (bA (pv 2)))))),?_⟩
  case g1=>exact fun cl C s₃ H₃ fp=>(aL (i:=0) vU rfl (Or.inl rfl) (Or.inr rfl))
  case t1=>exact fun cl C s₃ H₃ fp=>dG (aV hJ (aR aP (pv 1) (pv 0) (fun _ _=>rfl)) aK (aX _))
  case e1=>exact fun cl C s₃ H₃ fp=>(pv 0)
  refine⟨by show 0≤sizeLine;decide,fun Pr hPr=>?_⟩
  have sP:=aG (o:=.lst []) hPr
  refine⟨by show 1≤sizeLine;decide,fun L1 hL1=>⟨_,rfl,L1,_,_,rfl,rfl,aB,by lia,by lia,by rw[Int.toNat_natCast,List.length_singleton];exact Nat.le_trans (show 1*n≤32 by lia) (by decide),fun M hM=>?_⟩⟩
  rw[Int.toNat_natCast,gO,aB8]
  have s1:=sP.trans (aG (o:=.lst [.int 0]) hL1)
  have s2:=s1.trans (aG (o:=.lst (NV (degL n []))) hM)
  have gP:(upd (upd (upd H Pr (.lst [])) L1 (.lst [.int 0])) M (.lst (NV (degL n [])))) Pr=some (.lst (zr [])):=aG hM _ _ (aG hL1 _ _ aB)
  have gM:(upd (upd (upd H Pr (.lst [])) L1 (.lst [.int 0])) M (.lst (NV (degL n [])))) M=some (.lst (NV (degL n []))):=aB
  have nPM:Pr≠M:=aH (aG hL1 _ _ aB) hM
  have hMH:H M=none:=s1.free hM
  generalize upd (upd (upd H Pr _) L1 _) M _=H0 at *
  refine⟨_,rfl,1,(n:Int),rfl,⟨by decide,by decide,by lia,by lia⟩,?_⟩
  rw[show ((n:Int)-1).toNat=n-1 by lia]
  refine cI (lo:=1) (n:=n-1) (fun i σ Hc=>∃zs:Zs,(∃a b c,σ=[some (.ref p),some (.int n),some (.ref Pr),some (.ref M),a,b,c])∧aI p H Hc∧bB Hc p∧Hc Pr=some (.lst (zr zs))∧PO Hc zs∧Hc M=some (.lst (NV (degL n (zp zs))))∧Tree n (List.range n) (i+1) (dbl (zp zs))∧∀u∈zp zs,u.1<u.2)
   ⟨[],⟨none,none,none,rfl⟩,aI.of s2,hp.same s2,gP,PO.nil,gM,Tree.start (by rw[List.length_range];lia),fun u hu=>nomatch hu⟩ ?_ ?_
  ·rintro i σ Hc hi ⟨zs,⟨a,b,c,rfl⟩,sc,hpc,hPc,po,hMc,Tr,inc⟩
   have e1:(1:Int)+(i:Int)=((i+1:Nat):Int):=by lia
   rw[e1]
   have hzl:zs.length=i:=by have:=Tr.len;rw[fU,bJ] at this;lia
   refine⟨_,rfl,((i+1:Nat):Int),rfl,by lia,by lia,fun D1 hD1=>?_⟩
   rw[show (((i+1:Nat):Int)).toNat=i+1 from rfl]
   refine pX (lo:=0) (n:=i+1) (fun x=>decide (deg (dbl (zp zs)) (ci x)<8)) (fun σ=>∃a,σ=[a,some (.ref M)]) hD1 (by lia) ⟨_,rfl⟩ ?_ ?_
   ·rintro x σ H4 Kt Kf hx ⟨a',rfl⟩ sm4 kt kf
    rw[Int.zero_add] at kt ⊢
    have hx':x<(degL n (zp zs)).length:=by rw[gQ];lia
    refine⟨_,rfl,_,rfl,M,_,_,_,rfl,rfl,SqL.of (sm4 _ _ hMc),aM (cZ hx'),_,_,rfl,rfl,_,rfl,?_⟩
    have ed:=nN (ps:=zp zs) (show x<n by lia)
    refine ite2 (fun e=>?_) (fun e=>?_)
    ·exact⟨_,rfl,kt _ _ ⟨_,rfl⟩ (Same.refl _) (decide_eq_true (by have:=of_decide_eq_true e;lia))⟩
    ·exact kf _ _ ⟨_,rfl⟩ (Same.refl _) (decide_eq_false (fun z=>e (decide_eq_true (by lia))))
   ·intro H4 sm4 hD4
    have e0:((((List.range (i+1)).filter fun x=>decide (deg (dbl (zp zs)) (ci x)<8)).map fun (x:Nat)=>V.int (0+(x:Int))))=NV ((List.range (i+1)).filter fun x=>decide (deg (dbl (zp zs)) (ci x)<8)):=List.map_congr_left fun x _=>by rw[Int.zero_add]
    rw[e0] at hD4
    obtain⟨h0,hh0,dd0⟩:=Tr.free List.nodup_range (by rw[List.length_range];lia)
    have tk:(List.range n).take (i+1)=List.range (i+1):=by rw[List.take_range,Nat.min_eq_left (by lia)]
    rw[tk] at hh0
    have ne:0<((List.range (i+1)).filter fun x=>decide (deg (dbl (zp zs)) (ci x)<8)).length:=List.length_pos_of_mem (List.mem_filter.mpr ⟨hh0,decide_eq_true dd0⟩)
    have le:((List.range (i+1)).filter fun x=>decide (deg (dbl (zp zs)) (ci x)<8)).length≤i+1:=Nat.le_trans (List.length_filter_le _ _) (by rw[List.length_range];exact Nat.le_refl _)
    generalize hfs:(List.range (i+1)).filter (fun x=>decide (deg (dbl (zp zs)) (ci x)<8))=fs at *
    have hp4:=hpc.same sm4
    refine⟨_,rfl,_,rfl,_,rfl,D1,_,rfl,.inl (SqL.of hD4),p,_,rfl,by rw[aU];exact ne,by rw[aU];lia,hp4,fun d H5 hd s5 hp5=>?_⟩
    rw[aU] at hd
    have nD1:D1≠p:=hpc.ne hD1
    have hv:fs[d]?=some fs[d]:=List.getElem?_eq_getElem hd
    refine⟨D1,_,_,_,rfl,rfl,SqL.of (s5 _ _ hD4 nD1),aM (cZ hd),?_⟩
    have hsm:fs.getD d 0∈fs:=by rw[List.getD_eq_getElem?_getD,hv];exact List.getElem_mem _
    generalize fs.getD d 0=sv at *
    rw[← hfs] at hsm
    obtain⟨hs1,hs2⟩:=List.mem_filter.mp hsm
    have hsv:sv<i+1:=List.mem_range.mp hs1
    have hsd:deg (dbl (zp zs)) (ci sv)<8:=of_decide_eq_true hs2
    have nPp:Pr≠p:=hp.ne hPr
    have nMp:M≠p:=hp.ne hMH
    have hP5:=s5 _ _ (sm4 _ _ hPc) nPp
    have hM5:=s5 _ _ (sm4 _ _ hMc) nMp
    have po5:PO H5 zs:=(po.same sm4).sameE s5 hp4
    refine⟨_,rfl,.inl ⟨rfl,_,SqL.of hP5⟩,_,rfl,_,rfl,by show 2≤sizeLine;decide,fun t ht=>?_⟩
    have st:=aG (o:=prT (ci sv,ci (i+1))) ht
    refine⟨Pr,_,_,rfl,rfl,st _ _ hP5,by rw[cF,hzl];exact Nat.lt_of_lt_of_le (show i<33 by lia) (by decide),?_⟩
    have hM6:(upd (upd H5 t (prT (ci sv,ci (i+1)))) Pr (.lst (zr zs++[.ref t]))) M=some (.lst (NV (degL n (zp zs)))):=by rw[aF nPM.symm];exact st _ _ hM5
    have hsvn:sv<(degL n (zp zs)).length:=by rw[gQ];lia
    refine⟨_,rfl,_,rfl,M,_,_,_,rfl,rfl,SqL.of hM6,aM (cZ hsvn),_,_,rfl,rfl,_,rfl,_,rfl,M,_,(sv:Int),sv,rfl,rfl,hM6,cT (by rw[aU];exact hsvn),?_⟩
    have e2:(NV (degL n (zp zs))).set sv (V.int ((((degL n (zp zs)).getD sv 0:Nat):Int)+1))=NV ((degL n (zp zs)).set sv (deg (dbl (zp zs)) (ci sv)+1)):=by
     rw[nN (by lia)]
     exact jR (x:=deg (dbl (zp zs)) (ci sv)+1)
    have hkn:i+1<((degL n (zp zs)).set sv (deg (dbl (zp zs)) (ci sv)+1)).length:=by rw[List.length_set,gQ];lia
    have ek:((degL n (zp zs)).set sv (deg (dbl (zp zs)) (ci sv)+1)).getD (i+1) 0=deg (dbl (zp zs)) (ci (i+1)):=by
     rw[List.getD_eq_getElem?_getD,List.getElem?_set_ne (by lia),← List.getD_eq_getElem?_getD,nN (by lia)]
    have hP6:(upd (upd H5 t (prT (ci sv,ci (i+1)))) Pr (.lst (zr zs++[.ref t]))) Pr=some (.lst (zr zs++[.ref t])):=aB
    have o6:∀b,b≠Pr→(upd (upd H5 t (prT (ci sv,ci (i+1)))) Pr (.lst (zr zs++[.ref t]))) b=(upd H5 t (prT (ci sv,ci (i+1)))) b:=fun b n=>aF n
    have po6:PO (upd (upd H5 t (prT (ci sv,ci (i+1)))) Pr (.lst (zr zs++[.ref t]))) (zs++[(t,(ci sv,ci (i+1)))]):=PO.putL (xs:=zr zs) ((po5.same st).append (PO.one aB)) (st _ _ hP5)
    generalize upd (upd H5 t (prT (ci sv,ci (i+1)))) Pr _=H6 at *
    generalize hH7:upd H6 M _=H7
    have gM7:H7 M=some (.lst (NV ((degL n (zp zs)).set sv (deg (dbl (zp zs)) (ci sv)+1)))):=by rw[← hH7,aB];exact congrArg (fun l=>some (HO.lst l)) e2
    have o7:∀b,b≠M→H7 b=H6 b:=fun b n=>by rw[← hH7,aF n]
    refine⟨_,rfl,_,rfl,M,_,_,_,rfl,rfl,SqL.of gM7,aM (cZ hkn),_,_,rfl,rfl,_,rfl,_,rfl,M,_,((i+1:Nat):Int),i+1,rfl,rfl,gM7,cT (by rw[aU];exact hkn),?_⟩
    generalize hH8:upd H7 M _=H8
    have e3:(NV ((degL n (zp zs)).set sv (deg (dbl (zp zs)) (ci sv)+1))).set (i+1) (V.int (((((degL n (zp zs)).set sv (deg (dbl (zp zs)) (ci sv)+1)).getD (i+1) 0:Nat):Int)+1))=NV (degL n (zp zs++[(ci sv,ci (i+1))])):=by
     rw[ek,← aB7 (by lia) (by lia) (by lia)]
     exact jR (x:=deg (dbl (zp zs)) (ci (i+1))+1)
    have gM8:H8 M=some (.lst (NV (degL n (zp zs++[(ci sv,ci (i+1))])))):=by rw[← hH8,aB];exact congrArg (fun l=>some (HO.lst l)) e3
    have o8:∀b,b≠M→H8 b=H6 b:=fun b n=>by rw[← hH8,aF n];exact o7 b n
    have ez:zp (zs++[(t,(ci sv,ci (i+1)))])=zp zs++[(ci sv,ci (i+1))]:=by rw[dF];rfl
    refine⟨zs++[(t,(ci sv,ci (i+1)))],⟨_,_,_,rfl⟩,fun b o e n=>?_,?_,?_,fun z hz=>?_,by rw[ez];exact gM8,?_,fun u hu=>?_⟩
    ·rw[o8 _ (aH e hMH),o6 _ (aH e hPr)]
     exact st _ _ (s5 _ _ (sm4 _ _ (sc _ _ e n)) n)
    ·obtain⟨x,y,e,r⟩:=hp5.same st
     exact⟨x,y,by rw[o8 _ nMp.symm,o6 _ nPp.symm];exact e,r⟩
    ·rw[o8 _ nPM,hP6,dE];rfl
    ·have g:=po6 z hz
     rw[o8 _ (by rintro e;rw[e,hM6] at g;cases g)]
     exact g
    ·rw[ez,hV]
     exact Tr.add List.nodup_range (fun x hx=>List.mem_range.mp hx) (List.getElem?_range (by lia)) (by rw[tk];exact hs1) hsd
    ·rw[ez] at hu
     rcases List.mem_append.mp hu with z|z
     ·exact inc u z
     ·rw[List.mem_singleton.mp z];show ((sv:Nat):Int)<((i+1:Nat):Int);lia
  ·rintro σ Hc ⟨zs,⟨a,b,c,rfl⟩,sc,hpc,hPc,po,hMc,Tr,inc⟩
   rw[show n-1+1=n by lia] at Tr
   exact⟨_,rfl,q Pr zs Hc sc hpc hPr hPc po (Tr.fine n1 n2 (List.Perm.refl _)) inc⟩
end
end K12
namespace L2
open PySem PySem.Spec PyProof.Rows
def aEf(K:PySem.W.Frag):List V→Hp→VK→Prop:=fun xs H Q=>∃ (l:Addr) (ns:List Int),xs=[.ref l]∧SqL K H l (ns.map V.int)∧ns.length<64∧∀ (D:Addr) (ns':List Int),H D=none→ns'.Perm ns→ns'.Pairwise (·≤·)→Q (.ref D) (upd H D (.lst (ns'.map V.int)))
theorem zM{X:Cx}:cW X (.builtin "sorted") (aEf X.K):=by
 intro pins s σ H xs us Q I r h
 obtain⟨l,ns,rfl,hl,h64,q⟩:=h
 obtain⟨u1,rfl,r1⟩:=r.one
 obtain rfl:u1=Value.ref l:=r1
 obtain⟨its,rv,pl,_⟩:=I.list hl
 have ia:=xY rv
 refine sorted_ints pl.isList ia (by rw[ia.length];exact h64) fun out ns' a1 a2 a3=>?_
 obtain⟨⟨e,ho⟩,keep⟩:=vQ (h:=s.heap) (vs:=its) (out:=out)
 have hnone:s.heap.get? (s.heap.objs.size+1)=none:=Heap.get?_none_of_le (Nat.le_succ _)
 have eo:out=out.toList.toArray:=by simp
 refine⟨.ref (s.heap.objs.size+1),_,I.laidN (t':=s.toks) (o:=.lst (ns'.map V.int)) keep hnone ⟨?_,out.toList,e,kU a1,by rw[ho]⟩,rfl,q _ ns' (I.hok.freshN hnone) a2 a3⟩
 rw[List.length_map,a2.length_eq]
 exact Nat.le_trans (Nat.le_of_lt h64) (by decide)
theorem aB9{K:PySem.W.Frag}{a D:Addr}{xs:List V}{g:TG}{tt:TT}{te:TE}{fin:Hp→Prop}{σB:St}{H0:Hp}(Pv:Nat→List V→St→Hp→Prop)(h0:Pv 0 [] σB H0)(hl:∀i ys σ H,i≤xs.length→Pv i ys σ H→SqT K H a xs)(hs:∀i x ys σ H (Kt:V→St→Hp→Prop) (Kf:St→Hp→Prop),xs[i]?=some x→Pv i ys σ H→
   (∀v σ2 H4,H4 D=some (.lst ys)→ys.length<sizeLine→Pv (i+1) (ys++[v]) σ2 (upd H4 D (.lst (ys++[v])))→Kt v σ2 H4)→(∀σ2 H3,Pv (i+1) ys σ2 H3→Kf σ2 H3)→
   g x σ H fun σ2 H2=>tt σ2 H2 fun b H3=>if b=true then te σ2 H3 fun v H4=>Kt v σ2 H4 else Kf σ2 H3)(hd:∀ys σ H,Pv xs.length ys σ H→fin H):dN (Itt K a) g tt te D fin σB H0:=by
 refine⟨fun i m σ H=>m=xs.length-i∧i≤xs.length∧∃ys,Pv i ys σ H,⟨xs.length,by simp,Nat.zero_le _,[],h0⟩,?_⟩
 rintro i m σ H ⟨rfl,hi,ys,p⟩
 have q:=hl i ys σ H hi p
 by_cases hlt:i<xs.length
 ·refine .inr ⟨⟨xs,xs[i],q,by simp[hlt]⟩,?_⟩
  rintro x H' ⟨rfl,y⟩
  exact hs i x ys σ _ (fun v σ2 H4=>∃ys,H4 D=some (.lst ys)∧ys.length<sizeLine∧∃m',m'<xs.length-i∧m'=xs.length-(i+1)∧i+1≤xs.length∧∃ys',Pv (i+1) ys' σ2 (upd H4 D (.lst (ys++[v]))))
   (fun σ2 H3=>∃m',m'<xs.length-i∧m'=xs.length-(i+1)∧i+1≤xs.length∧∃ys',Pv (i+1) ys' σ2 H3) (y xs q) p
   (fun v σ2 H4 z1 z2 z3=>⟨ys,z1,z2,_,by lia,rfl,hlt,_,z3⟩) (fun σ2 H3 z=>⟨_,by lia,rfl,hlt,_,z⟩)
 ·have e:i=xs.length:=by lia
  subst e
  exact .inl ⟨⟨xs,q,Nat.le_refl _⟩,hd ys σ H p⟩
end L2
namespace K12
open PySem L2 NetM
abbrev zN:Stmt:=top 31
theorem pY:(["_law_house","_law_pairs"]:List Str).Nodup:=by decide +kernel
theorem rN:(["_law_pair","_law_house"]:List Str).Nodup:=by decide +kernel
theorem aDs{K:PySem.W.Frag}{a D:Addr}{zs:Zs}{g:TG}{tt:TT}{te:TE}{fin:Hp→Prop}{σB:St}{H0:Hp}(c:Int×Int→Bool)(shape:St→Prop)(ha:H0 a=some (.lst (zr zs)))(hD:H0 D=none)(hn:zs.length≤1000)(h0:shape σB)(hs:∀z σ H (Kt:V→St→Hp→Prop) (Kf:St→Hp→Prop),z∈zs→shape σ→Same H0 H→(∀σ2 H2,shape σ2→Same H H2→c z.2=true→Kt (.ref z.1) σ2 H2)→(∀σ2 H2,shape σ2→Same H H2→c z.2=false→Kf σ2 H2)→
   g (.ref z.1) σ H fun σ2 H2=>tt σ2 H2 fun b H3=>if b=true then te σ2 H3 fun v H4=>Kt v σ2 H4 else Kf σ2 H3)(hd:∀H,Same H0 H→H D=some (.lst (zr (zs.filter fun z=>c z.2)))→fin H):dN (Itl K a) g tt te D fin σB (upd H0 D (.lst [])):=by
 refine cJ (xs:=zr zs) (fun i ys σ H=>shape σ∧Same H0 H∧H D=some (.lst ys)∧ys=zr ((zs.take i).filter fun z=>c z.2)) ⟨h0,aG hD,aB,rfl⟩ (fun i ys σ H _ z=>SqL.of (z.2.1 _ _ ha)) ?_ ?_
 ·rintro i x ys σ H Kt Kf hx ⟨sh,sm,hDl,rfl⟩ kt kf
  obtain⟨z,hz,rfl⟩:=jQ hx
  have hi:i<zs.length:=(List.getElem?_eq_some_iff.mp hz).1
  have tk:zs.take (i+1)=zs.take i++[z]:=by rw[List.take_add_one,hz];rfl
  refine hs z σ H Kt Kf (List.mem_of_getElem? hz) sh sm (fun σ2 H2 sh2 s2 e=>?_) (fun σ2 H2 sh2 s2 e=>?_)
  ·refine kt _ _ _ (s2 _ _ hDl) ?_ ⟨sh2,bE (sm.trans s2) hD,aB,?_⟩
   ·rw[cF]
    exact Nat.lt_of_le_of_lt (List.length_filter_le _ _) (Nat.lt_of_le_of_lt (List.length_take_le _ _) (Nat.lt_of_lt_of_le (show i<1000 by lia) (by decide)))
   ·rw[tk,List.filter_append,dE]
    simp[List.filter_cons,e,zr]
  ·refine kf _ _ ⟨sh2,sm.trans s2,s2 _ _ hDl,?_⟩
   rw[tk,List.filter_append]
   simp[List.filter_cons,e]
 ·rintro ys σ H ⟨_,sm,hDl,rfl⟩
  rw[cF,List.take_length] at hDl
  exact hd H sm hDl
theorem aBf{zs:Zs}{c:Int×Int→Bool}:zp (zs.filter fun z=>c z.2)=(zp zs).filter c:=by
 unfold zp
 rw[List.filter_map];rfl
theorem rO{zs:Zs}{c:Int×Int→Bool}:(zr (zs.filter fun z=>c z.2)).length=((zp zs).filter c).length:=by rw[cF,← bJ,aBf]
theorem aDt{x:Int}{u:Int×Int}:inV (.int x) [.int u.1,.int u.2]=(decide (u.1=x)||decide (u.2=x)):=by
 unfold inV
 rw[Bool.eq_iff_iff]
 simp[eqV]
theorem aEg{a b:Int}{ns:List Int}(pm:ns.Perm [a,b])(so:ns.Pairwise (·≤·)):∃x y,ns=[x,y]∧x≤y∧(x=a∨x=b)∧(y=a∨y=b):=by
 have hl:=pm.length_eq
 match ns,hl with
 |[x,y],_=>
  have hx:x∈[a,b]:=pm.mem_iff.mp (by simp)
  have hy:y∈[a,b]:=pm.mem_iff.mp (by simp)
  refine⟨x,y,rfl,?_,by simpa using hx,by simpa using hy⟩
  exact(List.pairwise_cons.mp so).1 y (by simp)
section
variable {P:Program} {w:World} {K:PySem.W.Frag} {mg:Str→Option Value} {base:Heap}
theorem aCy{H:Hp}{zs:Zs}(po:PO H zs):zs.length=(zp zs).length∧∀i,i<(zp zs).length→SqT K H ((zs.map (·.1)).getD i 0) [.int ((zp zs).getD i (0,0)).1,.int ((zp zs).getD i (0,0)).2]:=by
 refine⟨bJ.symm,fun i hi=>?_⟩
 rw[bJ] at hi
 rw[tY hi,xE hi]
 exact SqT.of (po _ (List.getElem_mem hi))
theorem jT:aZ ["_law_pot_here","_law_n","_law_pairs","_law_k","_law_one","_law_other","_law_full"] ["_law_pot_here","_law_n"] (aN zN):=⟨rfl,rfl,rfl,by decide +kernel,rfl,by decide +kernel,by decide +kernel⟩
theorem aDu{f:Addr}{fd:FuncData}(F:Fun K "_law_mesh" "_law_mesh" zN f fd)(B:Bl mg)(D:Cal P w K mg base CX0 1 "_law_take" ["_law_pot_here","_law_many"] dZ)(TR:Cal P w K mg base CX0 2 "_law_tree" ["_law_pot_here","_law_n"] iT):FnOk P w K mg base CX0 3 f fd ["_law_pot_here","_law_n"] iT:=by
 refine F.ok jT (fun vs H Q E h=>?_) (fun cdv A outer s H vs Q E hr h=>?_)
 ·obtain⟨p,n,rfl,_⟩:=h
  rfl
 ·obtain⟨p,n,rfl,n1,n2,hp,q⟩:=h
  have h1:Room 1 _:=hr.mono (by decide)
  refine'⟨_,(aE (aO (i:=2) jT.nd rfl (Or.inr rfl) (aQ TR hr aT (aA (pv 0) (aA (pv 1) aD))))
   (aE (cA PassesOwn.never rfl (bN rfl B.range (aA (aQ D h1 aT (aA (pv 0) (aA aK aD))) aD)) (aL (i:=3) jT.nd rfl (Or.inl rfl))
    (aE (cK (aS zM (by rfl) B.sorted PyProof.Rows.boot_sorted (aA (bU (aA (aQ D h1 aT (aA (pv 0) (aA (pv 1) aD))) (aA (aQ D h1 aT (aA (pv 0) (aA (pv 1) aD))) aD))) aD)) (aC2 rfl (bC (aL (i:=4) jT.nd rfl (Or.inl rfl)) (bC (aL (i:=5) jT.nd rfl (Or.inl rfl)) cR))))
    (aE (aO (i:=6) jT.nd rfl (Or.inl rfl) (iB nY (aS (lK rfl) (by rfl) B.max PyProof.Rows.boot_max (aA ?c1 aD)) aK (aX _)))
    (aJ (bR (PW.pt (iI (aV nX (pv 4) (pv 5) (aX _)) (iI (aV (rC hr.u) (bT (aA (pv 4) (aA (pv 5) aD))) (pv 2) rfl) (iA (gZ (eU (pv 6))))))) (aJ (bS (cX PySem.F.plainAttrs_list PySem.F.slot_list_append PySem.F.type_list_append cP (pv 2) (aA (bT (aA (pv 4) (aA (pv 5) aD))) aD)))) bD)))))
   (aJ (bA (pv 2))))),?_⟩
  case c1=>
   refine' bV (g:=(bG 0)) (te:=(tCB (fun xs H Q=>∃p ys,xs=[V.ref p]∧(SqL K H p ys∨SqT K H p ys)∧Q (.int ys.length) H) (bK (yC [none,some 0] (aCl K (tVar 1)) (bG 0) (fL (tOp (rIn K false) (tVar 1) (tVar 0))) (tVar 0)) tNil))) (NB:=["_law_house","_law_pairs"]) (src:=[none,some 2]) (bH (by kernel_rfl)) rfl (nW (bT (aA (pv 4) (aA (pv 5) aD)))) ?g ?t ?e
   case g=>exact fun cl C s₃ H₃ fp=>(aL (i:=0) pY rfl (Or.inr rfl) (Or.inl rfl))
   case t=>exact fun cl C s₃ H₃ fp=>bZ
   case e=>
    intro cl C s₃ H₃ fp
    refine'(aS aW (by rfl) B.len PySem.boot_len (aA ?c2 aD))
    case c2=>
     refine' bV (g:=(bG 0)) (tt:=(fL (tOp (rIn K false) (tVar 1) (tVar 0)))) (te:=(tVar 0)) (NB:=["_law_pair","_law_house"]) (src:=[none,some 0]) (bH (by kernel_rfl)) rfl (bP (pv 1)) ?g ?t ?e
     case g=>exact fun cl C s₃ H₃ fp=>(aL (i:=0) rN rfl (Or.inl rfl) (Or.inr rfl))
     case t=>exact fun cl C s₃ H₃ fp=>dG (aV iV (pv 1) (pv 0) rfl)
     case e=>exact fun cl C s₃ H₃ fp=>(pv 0)
  refine⟨_,rfl,_,rfl,p,n,rfl,n1,n2,hp,fun Pr zs0 H1 s1 hp1 hPr hP1 po1 F1 inc1=>?_⟩
  have nPp:Pr≠p:=hp.ne hPr
  refine⟨_,rfl,p,10,rfl,by decide,by decide,hp1,fun d H2 hd s2 hp2=>⟨(d:Int),rfl,by lia,by lia,cI (n:=d) (lo:=0) (fun i σ Hc=>∃zs:Zs,(∃a b c e,σ=[some (.ref p),some (.int n),some (.ref Pr),a,b,c,e])∧aI p H Hc∧bB Hc p∧Hc Pr=some (.lst (zr zs))∧PO Hc zs∧Fine n (dbl (zp zs))∧∀u∈zp zs,u.1<u.2) ⟨zs0,⟨_,_,_,_,rfl⟩,s1.trans s2,hp2,s2 _ _ hP1 nPp,po1.sameE s2 hp1,F1,inc1⟩ ?_ ?_⟩⟩
  ·rintro i σ Hc hi ⟨zs,⟨x3,x4,x5,x6,rfl⟩,sc,hpc,hPc,po,Fi,inc⟩
   refine⟨_,rfl,_,rfl,p,n,rfl,by lia,by lia,hpc,fun d1 H3 h3 s3 hp3=>⟨_,rfl,_,rfl,p,n,rfl,by lia,by lia,hp3,fun d2 H4 h4 s4 hp4=>⟨by show 2≤sizeLine;decide,fun L hL=>⟨L,[(d1:Int),(d2:Int)],rfl,SqL.of aB,by show 2<64;decide,fun S ns' hS pm so=>?_⟩⟩⟩⟩
   obtain⟨x,y,rfl,xy,hx,hy⟩:=aEg pm so
   obtain⟨a,b,rfl,rfl,han,hbn⟩:∃a b:Nat,x=(a:Int)∧y=(b:Int)∧a<n∧b<n:=⟨x.toNat,y.toNat,by lia,by lia,by lia,by lia⟩
   have sL:=aG (o:=.lst [.int (d1:Int),.int (d2:Int)]) hL
   have sS:=aG (o:=.lst ([(a:Int),(b:Int)].map V.int)) hS
   refine⟨S,_,_,rfl,SqL.of aB,_,_,rfl,_,_,rfl,rfl,?_⟩
   have s5:aI p H _:=((sc.trans s3).trans s4).trans (aI.of (sL.trans sS))
   have hp5:=hp4.same (sL.trans sS)
   have hP5:=sS _ _ (sL _ _ (s4 _ _ (s3 _ _ hPc nPp) nPp))
   have po5:=((po.sameE s3 hpc).sameE s4 hp3).same (sL.trans sS)
   generalize upd (upd H4 L _) S _=H5 at *
   have hzl:zs.length≤256:=by have:=Fi.len;rw[fU,bJ] at this;lia
   refine⟨_,rfl,_,rfl,by show 2≤sizeLine;decide,fun T hT=>⟨T,rfl,⟨_,SqT.of aB⟩,fun D1 hD1=>?_⟩⟩
   have sT:=aG (o:=.tup [.int (a:Int),.int (b:Int)]) hT
   have gT:(upd H5 T (.tup [.int (a:Int),.int (b:Int)])) T=some (.tup [.int (a:Int),.int (b:Int)]):=aB
   have hP6:=sT _ _ hP5
   have po6:=po5.same sT
   have s6:aI p H _:=s5.trans (aI.of sT)
   have hp6:=hp5.same sT
   generalize upd H5 T _=H6 at *
   refine aB9 (xs:=[.int (a:Int),.int (b:Int)]) (fun i ys σ H7=>(∃x,σ=[x,some (.ref Pr)])∧Same H6 H7∧H7 D1=some (.lst ys)∧ys=(([a,b].take i).map fun (h:Nat)=>((deg (dbl (zp zs)) (ci h):Nat):Int)).map V.int) ⟨⟨_,rfl⟩,aG hD1,aB,rfl⟩ (fun i ys σ H7 _ z=>SqT.of (z.2.1 _ _ gT)) ?_ ?_
   ·rintro j v ys σ H7 Kt Kf hv ⟨⟨x',rfl⟩,sm7,hD7,rfl⟩ kt kf
    obtain⟨h,hh,rfl⟩:∃h:Nat,[a,b][j]?=some h∧v=.int (h:Int):=by
     match j,hv with
     |0,hv=>exact⟨a,rfl,by simpa using hv.symm⟩
     |1,hv=>exact⟨b,rfl,by simpa using hv.symm⟩
    have hj:j<2:=(List.getElem?_eq_some_iff.mp hh).1
    have hP7:=sm7 _ _ hP6
    refine⟨_,rfl,Pr,rfl,⟨_,SqL.of hP7⟩,fun D2 hD2=>?_⟩
    refine aDs (fun u=>decide (u.1=ci h)||decide (u.2=ci h)) (fun σ=>∃a,σ=[a,some (.int (h:Int))]) hP7 hD2 (by lia) ⟨_,rfl⟩ ?_ ?_
    ·rintro z σ H8 Kt' Kf' hz ⟨a',rfl⟩ sm8 kt' kf'
     have hz8:=sm8 _ _ ((po6.same sm7) z hz)
     refine⟨_,rfl,_,rfl,z.1,_,rfl,.inr (SqT.of hz8),rfl,rfl,_,rfl,?_⟩
     have e:=aDt (x:=ci h) (u:=z.2)
     refine ite2 (fun c=>?_) (fun c=>?_)
     ·exact⟨_,rfl,kt' _ _ ⟨_,rfl⟩ (Same.refl _) (e ▸ c)⟩
     ·exact kf' _ _ ⟨_,rfl⟩ (Same.refl _) (by rw[← e];simpa using c)
    ·intro H8 sm8 hD8
     have eL:(zr (zs.filter fun z=>decide (z.2.1=ci h)||decide (z.2.2=ci h))).length=((zp zs).filter fun u=>decide (u.1=ci h)||decide (u.2=ci h)).length:=rO (c:=fun u=>decide (u.1=ci h)||decide (u.2=ci h))
     have eD:=rF (ps:=zp zs) (h:=ci h) fun u hu=>by have:=inc u hu;lia
     refine⟨D2,_,rfl,.inl (SqL.of hD8),kt _ _ _ (sm8 _ _ hD7) ?_ ⟨⟨_,rfl⟩,bE (sm7.trans sm8) hD1,aB,?_⟩⟩
     ·rw[List.length_map,List.length_map]
      exact Nat.lt_of_le_of_lt (List.length_take_le _ _) (Nat.lt_of_lt_of_le (show j<3 by lia) (by decide))
     ·rw[List.take_add_one,hh,Option.toList_some,List.map_append,List.map_append,eL,eD];rfl
   ·rintro ys σ H7 ⟨_,sm7,hD7,rfl⟩
    have hD7':H7 D1=some (.lst ([((deg (dbl (zp zs)) (ci a):Nat):Int),((deg (dbl (zp zs)) (ci b):Nat):Int)].map V.int)):=hD7
    refine⟨D1,_,rfl,SqL.of hD7',by simp,fun M hM hall=>⟨_,_,rfl,rfl,?_⟩⟩
    have s7:aI p H H7:=s6.trans (aI.of sm7)
    have hp7:=hp6.same sm7
    have hP7:=sm7 _ _ hP6
    have po7:=po6.same sm7
    have da:=hall _ (by simp:((deg (dbl (zp zs)) (ci a):Nat):Int)∈_)
    have db:=hall ((deg (dbl (zp zs)) (ci b):Nat):Int) (by simp)
    refine⟨_,rfl,_,rfl,rfl,_,rfl,?_⟩
    by_cases hab:a=b
    ·refine kH (by subst hab;simp) (iteF ?_)
     exact⟨zs,⟨_,_,_,_,rfl⟩,s7,hp7,hP7,po7,Fi,inc⟩
    refine iX (by simp;lia) ⟨_,rfl,_,rfl,by show 2≤sizeLine;decide,fun t ht=>?_⟩
    have st:=aG (o:=prT ((a:Int),(b:Int))) ht
    have hP8:=st _ _ hP7
    have po8:=po7.same st
    obtain⟨l1,l2⟩:=aCy (K:=K) po8
    refine⟨_,rfl,t,Pr,((a:Int),(b:Int)),zs.map (fun z:Addr×Int×Int=>z.1),zp zs,rfl,rfl,SqT.of aB,by rw[← jP];exact SqL.of hP8,by rw[List.length_map];exact l1,l2,_,rfl,?_⟩
    have s8:aI p H _:=s7.trans (aI.of st)
    have hp8:=hp7.same st
    generalize upd H7 t _=H8 at *
    by_cases hin:((a:Int),(b:Int))∈zp zs
    ·refine kH (by simp[hin]) (iteF ?_)
     exact⟨zs,⟨_,_,_,_,rfl⟩,s8,hp8,hP8,po8,Fi,inc⟩
    refine iX (by simp[hin]) ⟨_,rfl,_,rfl,?_⟩
    by_cases hfull:(7:Int)<M
    ·refine kH (by simp[hfull]) ?_
     exact⟨zs,⟨_,_,_,_,rfl⟩,s8,hp8,hP8,po8,Fi,inc⟩
    ·refine iX (by simp[hfull]) ?_
     refine⟨_,rfl,.inl ⟨rfl,_,SqL.of hP8⟩,_,rfl,_,rfl,by show 2≤sizeLine;decide,fun t2 ht2=>?_⟩
     have st2:=aG (o:=prT ((a:Int),(b:Int))) ht2
     refine⟨Pr,_,_,rfl,rfl,st2 _ _ hP8,by rw[cF];exact Nat.lt_of_le_of_lt hzl (by decide),zs++[(t2,((a:Int),(b:Int)))],⟨_,_,_,_,rfl⟩,fun c o e m=>?_,?_,?_,?_,?_,?_⟩
     ·rw[aF (aH e hPr)];exact st2 _ _ (s8 _ _ e m)
     ·exact(hp8.same st2).put nPp.symm
     ·rw[aB,dE];rfl
     ·exact PO.putL (xs:=zr zs) ((po8.same st2).append (PO.one aB)) (st2 _ _ hP8)
     ·rw[dF]
      refine Fi.pair han hbn hab hin (fun z=>?_) (by lia) (by lia)
      have:=inc _ z
      simp at this
      lia
     ·intro u hu
      rw[dF] at hu
      rcases List.mem_append.mp hu with z|z
      ·exact inc u z
      ·rw[List.mem_singleton.mp z];show (a:Int)<(b:Int);lia
  ·rintro σ Hc ⟨zs,⟨x3,x4,x5,x6,rfl⟩,sc,hpc,hPc,po,Fi,inc⟩
   exact⟨_,rfl,q Pr zs Hc sc hpc hPr hPc po Fi inc⟩
end
end K12
namespace NetM
def bxp(m:Nat)(ns:List Nat)(i:Nat):List (Nat×Nat):=(List.range i).flatMap fun j=>bxr m (pr (ns.take j)) (ns.getD j 0)
theorem fN{α:Type}{f:Nat→List α}{n:Nat}:(List.range (n+1)).flatMap f=(List.range n).flatMap f++f n:=by
 rw[List.range_succ,List.flatMap_append];simp
theorem pZ:∀ {ns:List Nat} {x:Nat},pr (ns++[x])=pr ns*x
 |[],x=>by show x*1=1*x;lia
 |n::ns,x=>by show n*pr (ns++[x])=n*pr ns*x;rw[pZ,Nat.mul_assoc]
theorem aBg{m:Nat}:∀ {ns:List Nat} {st:Nat},bx m st ns=(List.range ns.length).flatMap fun j=>bxr m (st*pr (ns.take j)) (ns.getD j 0)
 |[],st=>rfl
 |n::ns,st=>by
  show bxr m st n++bx m (st*n) ns=_
  rw[List.length_cons,List.range_succ_eq_map,List.flatMap_cons,aBg (ns:=ns)]
  congr 1
  ·show bxr m st n=bxr m (st*1) n
   rw[Nat.mul_one]
  ·rw[List.flatMap_map]
   congr 1
   funext j
   show _=bxr m (st*(n*pr (ns.take j))) (ns.getD j 0)
   rw[Nat.mul_assoc]
theorem hE{α:Type}{g:Nat→List α}{M:Nat}(hg:∀x,(g x).length≤M):∀ {m:Nat},((List.range m).flatMap g).length≤m*M
 |0=>Nat.zero_le _
 |m+1=>by rw[fN,List.length_append,Nat.succ_mul];have:=hg m;have:=hE hg (m:=m);lia
theorem xI{m st n:Nat}:(bxr m st n).length≤m:=by unfold bxr;rw[List.length_map];exact Nat.le_trans (List.length_filter_le _ _) (by simp)
def wrow(b at_ h:Nat):List (Nat×Nat):=(List.range (b-h / b ^ at_ % b-1)).map fun k=>(h,h+(k+1)*b ^ at_)
theorem nQ{b at_ h:Nat}(hb:b≤5):(wrow b at_ h).length≤5:=by unfold wrow;rw[List.length_map,List.length_range];lia
end NetM
namespace K12
open PySem L2 NetM
abbrev sBox:Stmt:=top 32
abbrev uI:Stmt:=top 33
def zO(ns:List Nat):Prop:=1≤ns.length∧ns.length≤5∧(∀x∈ns,2≤x∧x≤8)∧pr ns≤32
theorem kI:(["_law_house","_law_stride","_law_side"]:List Str).Nodup:=by decide +kernel
theorem kJ:(["_law_more","_law_house","_law_stride"]:List Str).Nodup:=by decide +kernel
theorem hX:∀ {ns:List Nat} {i:Nat},(∀x∈ns,1≤x)→pr (ns.take i)≤pr ns
 |[],i,_=>by rw[List.take_nil];exact Nat.le_refl _
 |n::ns,0,h=>by
  show 1≤n*pr ns
  have:∀ {l:List Nat},(∀x∈l,1≤x)→1≤pr l:=fun {l}=>by
   induction l with
   |nil=>intro _;exact Nat.le_refl _
   |cons x l ih=>intro hl;exact Nat.mul_pos (hl x List.mem_cons_self) (ih fun y hy=>hl y (List.mem_cons_of_mem _ hy))
  exact this (l:=n::ns) h
 |n::ns,i+1,h=>by
  show n*pr (ns.take i)≤n*pr ns
  exact Nat.mul_le_mul_left n (hX fun x hx=>h x (List.mem_cons_of_mem _ hx))
theorem aBh{lo:Int}{n:Nat}{D:Addr}{g:TG}{tt:TT}{te:TE}{fin:Hp→Prop}{σB:St}{H0:Hp}(c:Nat→Bool)(F:Nat→Int×Int)(shape:St→Prop)(hD:H0 D=none)(hn:n≤1000)(h0:shape σB)(hs:∀i σ H (R:V→St→Hp→Prop) (Kf:St→Hp→Prop),i<n→shape σ→Same H0 H→(∀σ2 p,shape σ2→H p=none→c i=true→R (.ref p) σ2 (upd H p (prT (F i))))→(∀σ2,shape σ2→c i=false→Kf σ2 H)→g (.int (lo+i)) σ H fun σ2 H2=>tt σ2 H2 fun b H3=>if b=true then te σ2 H3 fun v H4=>R v σ2 H4 else Kf σ2 H3)(hd:∀zs H,Same H0 H→H D=some (.lst (zr zs))→PO H zs→zp zs=((List.range n).filter c).map F→fin H):dN (Itr lo n) g tt te D fin σB (upd H0 D (.lst [])):=by
 refine eE (fun i ys σ H=>shape σ∧Same H0 H∧H D=some (.lst ys)∧∃zs:Zs,ys=zr zs∧PO H zs∧zp zs=((List.range i).filter c).map F) ⟨h0,aG hD,aB,[],rfl,PO.nil,rfl⟩ ?_ ?_
 ·rintro i ys σ H Kt Kf hi ⟨sh,sm,hDl,zs,rfl,po,ep⟩ kt kf
  have hl:zs.length≤i:=by
   rw[← bJ,ep,List.length_map]
   exact Nat.le_trans (List.length_filter_le _ _) (by rw[List.length_range];exact Nat.le_refl _)
  refine hs i σ H Kt Kf hi sh sm (fun σ2 p sh2 hp e=>?_) (fun σ2 sh2 e=>?_)
  ·have nD:D≠p:=aH hDl hp
   refine kt _ _ _ (by rw[aF nD];exact hDl) (by rw[cF];exact Nat.lt_of_le_of_lt (show zs.length≤1000 by lia) (by decide)) ⟨sh2,bE (sm.trans (aG hp)) hD,aB,zs++[(p,F i)],?_,?_,?_⟩
   ·rw[dE];rfl
   ·refine PO.putL (xs:=zr zs) ?_ (by rw[aF nD];exact hDl)
    exact(po.putN hp).append (PO.one aB)
   ·rw[dF,ep,List.range_succ,List.filter_append,List.map_append]
    simp[List.filter_cons,e,zp]
  ·refine kf _ _ ⟨sh2,sm,hDl,zs,rfl,po,?_⟩
   rw[ep,List.range_succ,List.filter_append]
   simp[List.filter_cons,e]
 ·rintro ys σ H ⟨_,sm,hDl,zs,rfl,po,ep⟩
  exact hd zs H sm hDl po ep
theorem iY.ext{H H2 H3:Hp}{D:Addr}{ts us:Ts}{zs2 zs:Zs}(hD:H D=none)(sm:Same H H2)(h1:H2 D=some (.lst (zr zs2)))(po2:PO H2 zs2)(ez:zp zs2=ts)(s3:Same H2 H3)(po:PO H3 zs)(e:zp zs=us):iY H D (ts++us) (upd H3 D (.lst (zr zs2++zr zs))):=
 ⟨bE (sm.trans s3) hD,zs2++zs,by rw[aB,dE],PO.putL (xs:=zr zs2) ((po2.same s3).append po) (s3 _ _ h1),by rw[dF,ez,e]⟩
section
variable {P:Program} {w:World} {K:PySem.W.Frag} {mg:Str→Option Value} {base:Heap}
theorem iZ:aZ ["_law_sides","_law_many","_law_side","_law_pairs","_law_stride"] ["_law_sides"] (aN sBox):=⟨rfl,rfl,rfl,by decide +kernel,rfl,by decide +kernel,by decide +kernel⟩
def aCz(H:Hp)(m:Nat)(ts:Ts)(Q:V→Hp→Prop):Prop:=∀ (t r:Addr) (zs:Zs) (H':Hp),Same H H'→H t=none→H r=none→H' t=some (.tup [.int m,.ref r])→H' r=some (.lst (zr zs))→PO H' zs→zp zs=ts→Q (.ref t) H'
def zP:Sp:=fun vs H Q _=>∃ (a:Addr) (ns:List Nat),vs=[.ref a]∧H a=some (.tup (NV ns))∧zO ns∧aCz H (pr ns) ((boxQ ns).map ci2) Q
theorem aEh{f:Addr}{fd:FuncData}(F:Fun K "_law_box" "_law_box" sBox f fd)(B:Bl mg):FnOk P w K mg base CX0 1 f fd ["_law_sides"] zP:=by
 refine F.ok iZ (fun vs H Q E h=>?_) (fun cdv A outer s H vs Q E hr h=>?_)
 ·obtain⟨a,ns,rfl,_⟩:=h
  rfl
 ·obtain⟨a,ns,rfl,ha,⟨hl0,hl,hn,hm⟩,k⟩:=h
  refine'⟨_,(aE (aO (i:=1) iZ.nd rfl (Or.inl rfl) aK)
   (aE (cA PassesOwn.never rfl (nW (pv 0)) (aL (i:=2) iZ.nd rfl (Or.inr rfl))
    (aJ (aO (i:=1) iZ.nd rfl (Or.inl rfl) (aY fX (pv 1) (pv 2)))))
   (aE (aO (i:=3) iZ.nd rfl (Or.inl rfl) (bU aD))
   (aE (aO (i:=4) iZ.nd rfl (Or.inr rfl) aK)
   (aE (cA PassesOwn.never rfl (nW (pv 0)) (aL (i:=2) iZ.nd rfl (Or.inr rfl))
    (aE (bS (cX PySem.F.plainAttrs_list PySem.F.slot_list_extend PySem.F.type_list_extend kS (pv 3) (aA ?c1 aD)))
    (aJ (aO (i:=4) iZ.nd rfl (Or.inr rfl) (aY fX (pv 4) (pv 2))))))
   (aJ (bA (bT (aA (pv 1) (aA (pv 3) aD)))))))))),?_⟩
  case c1=>
   refine' bV (g:=(bG 0)) (tt:=(fL (tOp (rI0 fun i j=>.bl (decide (i<j))) (tOp (rI (fun _ j=>0<j) fun i j=>.int (i % j)) (tOp (rI CDiv fun i j=>.int (i / j)) (tVar 0) (tVar 1)) (tVar 2)) (tOp (rI0 fun i j=>.int (i-j)) (tVar 2) (tC (.int 1)))))) (te:=(tTup (bK (tVar 0) (bK (tOp (rI0 fun i j=>.int (i+j)) (tVar 0) (tVar 1)) tNil)))) (NB:=["_law_house","_law_stride","_law_side"]) (src:=[none,some 4,some 2]) (bH (by kernel_rfl)) rfl (bN rfl B.range (aA (pv 1) aD)) ?g ?t ?e
   case g=>exact fun cl C s₃ H₃ fp=>(aL (i:=0) kI rfl (Or.inl rfl) (Or.inr rfl))
   case t=>exact fun cl C s₃ H₃ fp=>dG (aV hJ (aY eJ (aY pJ (pv 0) (pv 1)) (pv 2)) (aY jI (pv 2) aK) (aX _))
   case e=>exact fun cl C s₃ H₃ fp=>(bT (aA (pv 0) (aA (aY cL (pv 0) (pv 1)) aD)))
  have hn1:∀x∈ns,1≤x:=fun x hx=>by have:=hn x hx;lia
  refine⟨_,rfl,a,rfl,⟨_,SqT.of ha⟩,pI (K:=K) (xs:=NV ns) (fun i σ H2=>H2=H∧∃x2,σ=[some (.ref a),some (.int ((pr (ns.take i):Nat):Int)),x2,none,none]) ⟨rfl,_,rfl⟩ (fun i σ H2 _ z=>by rw[z.1];exact SqT.of ha) ?_ ?_⟩
  ·rintro i x σ H2 hx ⟨rfl,x2,rfl⟩
   obtain⟨n,hv,rfl⟩:=kF hx
   have hnn:=hn n (List.mem_of_getElem? hv)
   have hst:=hX (ns:=ns) (i:=i) hn1
   have tk:ns.take (i+1)=ns.take i++[n]:=by rw[List.take_add_one,hv];rfl
   rw[tk,pZ]
   exact⟨_,rfl,_,rfl,_,_,rfl,rfl,.inr ⟨by lia,by lia⟩,rfl,_,rfl⟩
  rintro σ H2 ⟨rfl,x2,rfl⟩
  rw[aU,List.take_length]
  refine⟨by show 0≤sizeLine;decide,fun D hD=>?_⟩
  have s0:=aG (o:=.lst []) hD
  refine⟨_,rfl,a,rfl,⟨_,SqT.of (s0 _ _ ha)⟩,pI (K:=K) (xs:=NV ns) (fun i σ Hc=>(∃x2,σ=[some (.ref a),some (.int ((pr ns:Nat):Int)),x2,some (.ref D),some (.int ((pr (ns.take i):Nat):Int))])∧iY H2 D ((bxp (pr ns) ns i).map ci2) Hc) ⟨⟨_,rfl⟩,s0,[],aB,PO.nil,rfl⟩ (fun i σ Hc _ z=>SqT.of (z.2.1 _ _ ha)) ?_ ?_⟩
  ·rintro i x σ Hc hx ⟨⟨x3,rfl⟩,sm,zs2,hD2,po2,ez2⟩
   obtain⟨n,hv,rfl⟩:=kF hx
   have hi:i<ns.length:=(List.getElem?_eq_some_iff.mp hv).1
   have hnn:=hn n (List.mem_of_getElem? hv)
   have hst:=hX (ns:=ns) (i:=i) hn1
   have hst0:1≤pr (ns.take i):=hX (ns:=ns.take i) (i:=0) fun x hx=>hn1 x (List.mem_of_mem_take hx)
   have gd:ns.getD i 0=n:=by rw[List.getD_eq_getElem?_getD,hv];rfl
   have tk:ns.take (i+1)=ns.take i++[n]:=by rw[List.take_add_one,hv];rfl
   rw[tk,pZ]
   have eB:bxp (pr ns) ns (i+1)=bxp (pr ns) ns i++bxr (pr ns) (pr (ns.take i)) n:=by unfold bxp;rw[fN,gd]
   have zl:zs2.length≤160:=by
    rw[← bJ,ez2,List.length_map]
    exact Nat.le_trans (hE (M:=32) fun j=>Nat.le_trans xI hm) (by lia)
   rw[eB,List.map_append]
   generalize pr (ns.take i)=st at *
   refine⟨_,rfl,.inl ⟨rfl,_,SqL.of hD2⟩,_,rfl,((pr ns:Nat):Int),rfl,by lia,by lia,fun L hL=>?_⟩
   refine aBh (lo:=0) (n:=pr ns) (fun h=>decide (h / st % n+1<n)) (fun h=>ci2 (h,h+st)) (fun σ=>∃x,σ=[x,some (.int (st:Int)),some (.int (n:Int))]) hL (by lia) ⟨_,rfl⟩ ?_ ?_
   ·rintro j σ H4 R Kf hj ⟨x,rfl⟩ sm4 kt kf
    have hdv:((0:Int)+(j:Int)) / (st:Int) % (n:Int)=(((j / st % n:Nat)):Int):=by rw[Int.zero_add];rfl
    refine⟨_,rfl,_,rfl,_,_,rfl,rfl,⟨by lia,by lia⟩,_,rfl,_,_,rfl,rfl,(by show (0:Int)<(n:Int);lia),_,rfl,_,_,rfl,rfl,_,_,rfl,rfl,_,rfl,?_⟩
    rw[hdv]
    refine ite2 (fun c=>?_) (fun c=>?_)
    ·have c:=of_decide_eq_true c
     refine⟨_,rfl,_,rfl,_,rfl,_,_,rfl,rfl,by show 2≤sizeLine;decide,fun t ht=>?_⟩
     rw[Int.zero_add]
     exact kt _ _ ⟨_,rfl⟩ ht (decide_eq_true (by lia))
    ·exact kf _ ⟨_,rfl⟩ (decide_eq_false fun z=>c (decide_eq_true (by lia)))
   ·intro zs H4 s4 hL4 po4 ez4
    have e4:zp zs=(bxr (pr ns) st n).map ci2:=by rw[ez4];unfold bxr;rw[List.map_map];rfl
    have l4:zs.length≤32:=by rw[← bJ,e4,List.length_map];exact Nat.le_trans xI hm
    refine⟨D,L,_,_,rfl,rfl,s4 _ _ hD2,hL4,by rw[cF,cF];exact Nat.le_trans (show _≤192 by lia) (by decide),?_⟩
    exact⟨_,rfl,_,rfl,_,_,rfl,rfl,.inr ⟨by lia,by lia⟩,⟨_,rfl⟩,iY.ext hD sm hD2 po2 ez2 s4 po4 e4⟩
  ·rintro σ Hc ⟨⟨x3,rfl⟩,sm,zs2,hD2,po2,ez2⟩
   refine⟨_,rfl,_,rfl,by show 2≤sizeLine;decide,fun t ht=>?_⟩
   have st:=aG (o:=.tup [.int ((pr ns:Nat):Int),.ref D]) ht
   refine k t D zs2 _ (sm.trans st) (sm.free ht) hD aB (st _ _ hD2) (po2.same st) ?_
   rw[ez2,aU]
   unfold boxQ bxp
   rw[aBg]
   simp only[Nat.one_mul]
theorem eQ:aZ ["_law_figures","_law_base","_law_many","_law_k","_law_pairs","_law_stride","_law_house","_law_figure"] ["_law_figures","_law_base"] (aN uI):=⟨rfl,rfl,rfl,by decide +kernel,rfl,by decide +kernel,by decide +kernel⟩
def qA:Sp:=fun vs H Q _=>∃f b:Nat,vs=[.int f,.int b]∧1≤f∧f≤5∧2≤b∧b≤5∧b ^ f≤32∧aCz H (b ^ f) ((lL f b).map ci2) Q
theorem aCa{f:Addr}{fd:FuncData}(F:Fun K "_law_words" "_law_words" uI f fd)(B:Bl mg):FnOk P w K mg base CX0 1 f fd ["_law_figures","_law_base"] qA:=by
 refine F.ok eQ (fun vs H Q E h=>?_) (fun cdv A outer s H vs Q E hr h=>?_)
 ·obtain⟨f,b,rfl,_⟩:=h
  rfl
 ·obtain⟨f,b,rfl,f1,f2,b1,b2,hm,k⟩:=h
  refine'⟨_,(aE (aO (i:=2) eQ.nd rfl (Or.inl rfl) aK)
   (aE (cA PassesOwn.never rfl (bN rfl B.range (aA (pv 0) aD)) (aL (i:=3) eQ.nd rfl (Or.inl rfl))
    (aJ (aO (i:=2) eQ.nd rfl (Or.inl rfl) (aY fX (pv 2) (pv 1)))))
   (aE (aO (i:=4) eQ.nd rfl (Or.inl rfl) (bU aD))
   (aE (aO (i:=5) eQ.nd rfl (Or.inr rfl) aK)
   (aE (cA PassesOwn.never rfl (bN rfl B.range (aA (pv 0) aD)) (aL (i:=3) eQ.nd rfl (Or.inl rfl))
    (aE (cA PassesOwn.never rfl (bN rfl B.range (aA (pv 2) aD)) (aL (i:=6) eQ.nd rfl (Or.inr rfl))
     (aE (aO (i:=7) eQ.nd rfl (Or.inl rfl) (aY eJ (aY pJ (pv 6) (pv 5)) (pv 1)))
     (aJ (bS (cX PySem.F.plainAttrs_list PySem.F.slot_list_extend PySem.F.type_list_extend kS (pv 4) (aA ?c1 aD))))))
    (aJ (aO (i:=5) eQ.nd rfl (Or.inr rfl) (aY fX (pv 5) (pv 1))))))
   (aJ (bA (bT (aA (pv 2) (aA (pv 4) aD)))))))))),?_⟩
  case c1=>
   refine' bV (g:=(bG 0)) (te:=(tTup (bK (tVar 1) (bK (tOp (rI0 fun i j=>.int (i+j)) (tVar 1) (tOp (rI CMul fun i j=>.int (i*j)) (tVar 0) (tVar 2))) tNil)))) (NB:=["_law_more","_law_house","_law_stride"]) (src:=[none,some 6,some 5]) (bH (by kernel_rfl)) rfl (kP rfl B.range (aA aK (aA (aY jI (pv 1) (pv 7)) aD))) ?g ?t ?e
   case g=>exact fun cl C s₃ H₃ fp=>(aL (i:=0) kJ rfl (Or.inl rfl) (Or.inr rfl))
   case t=>exact fun cl C s₃ H₃ fp=>bZ
   case e=>exact fun cl C s₃ H₃ fp=>(bT (aA (pv 1) (aA (aY cL (pv 1) (aY fX (pv 0) (pv 2))) aD)))
  have hpw:∀i,i≤f→b ^ i≤32:=fun i hi=>Nat.le_trans (Nat.pow_le_pow_right (by lia) hi) hm
  refine⟨_,rfl,(f:Int),rfl,by lia,by lia,cI (n:=f) (lo:=0) (fun i σ H2=>H2=H∧∃x3,σ=[some (.int f),some (.int b),some (.int ((b ^ i:Nat):Int)),x3,none,none,none,none]) ⟨rfl,_,rfl⟩ ?_ ?_⟩
  ·rintro i σ H2 hi ⟨rfl,x3,rfl⟩
   have hbi:=hpw i (by lia)
   refine⟨_,rfl,_,rfl,_,_,rfl,rfl,.inr ⟨by lia,by lia⟩,rfl,some (.int (0+(i:Int))),?_⟩
   rw[Nat.pow_succ];rfl
  rintro σ H2 ⟨rfl,x3,rfl⟩
  refine⟨by show 0≤sizeLine;decide,fun D hD=>?_⟩
  refine⟨_,rfl,(f:Int),rfl,by lia,by lia,cI (n:=f) (lo:=0) (fun i σ Hc=>(∃x3 x6 x7,σ=[some (.int f),some (.int b),some (.int ((b ^ f:Nat):Int)),x3,some (.ref D),some (.int ((b ^ i:Nat):Int)),x6,x7])∧iY H2 D (((List.range i).flatMap fun at_=>(List.range (b ^ f)).flatMap (wrow b at_)).map ci2) Hc) ⟨⟨_,_,_,rfl⟩,aG hD,[],aB,PO.nil,rfl⟩ ?_ ?_⟩
  ·rintro i σ Hc hi ⟨⟨x3,x6,x7,rfl⟩,Pi⟩
   have hbi:=hpw i (by lia)
   have hbp:0<b ^ i:=Nat.pow_pos (by lia)
   refine⟨_,rfl,((b ^ f:Nat):Int),rfl,by lia,by lia,cI (n:=b ^ f) (lo:=0) (fun j σ H4=>(∃x3 x6 x7,σ=[some (.int f),some (.int b),some (.int ((b ^ f:Nat):Int)),x3,some (.ref D),some (.int ((b ^ i:Nat):Int)),x6,x7])∧iY H2 D ((((List.range i).flatMap fun at_=>(List.range (b ^ f)).flatMap (wrow b at_))++(List.range j).flatMap (wrow b i)).map ci2) H4) ⟨⟨_,_,_,rfl⟩,by simpa using Pi⟩ ?_ ?_⟩
   ·rintro j σ H4 hj ⟨⟨x3,x6,x7,rfl⟩,sm4,zs4,hz4,po4,ez4⟩
    have hdv:((0:Int)+(j:Int)) / ((b ^ i:Nat):Int) % (b:Int)=((j / b ^ i % b:Nat):Int):=by rw[Int.zero_add];rfl
    have hlt:j / b ^ i % b<b:=Nat.mod_lt _ (by lia)
    refine⟨_,rfl,_,rfl,_,_,rfl,rfl,⟨by lia,by lia⟩,_,rfl,_,_,rfl,rfl,(by show (0:Int)<(b:Int);lia),?_⟩
    change bG 7 (V.int (((0:Int)+(j:Int)) / ((b ^ i:Nat):Int) % (b:Int))) _ _ _
    rw[hdv]
    refine⟨_,rfl,.inl ⟨rfl,_,SqL.of hz4⟩,_,rfl,_,rfl,_,_,rfl,rfl,1,_,rfl,⟨by lia,by lia,by lia,by lia⟩,fun L hL=>?_⟩
    have hn:((b:Int)-((j / b ^ i % b:Nat):Int)-1).toNat=b-j / b ^ i % b-1:=by lia
    rw[hn]
    have zl:zs4.length≤1000:=by
     have e:=congrArg List.length ez4
     rw[bJ,List.length_map,List.length_append] at e
     have z3:∀at_,((List.range (b ^ f)).flatMap (wrow b at_)).length≤160:=fun at_=>Nat.le_trans (hE fun x=>nQ b2) (by lia)
     have z4:=hE (m:=i) z3
     have z5:=hE (m:=j) fun x=>nQ (at_:=i) (h:=x) b2
     lia
    refine kE (lo:=1) (fun c=>ci2 (j,j+(c+1)*b ^ i)) (fun σ=>∃x,σ=[x,some (.int (j:Int)),some (.int ((b ^ i:Nat):Int))]) hL (by lia) ⟨_,by rw[Int.zero_add];rfl⟩ ?_ ?_
    ·rintro c σ H5 R Kf hc ⟨x,rfl⟩ sm5 kt
     have hq:(1+(c:Int))*((b ^ i:Nat):Int)=(((c+1)*b ^ i:Nat):Int):=by rw[Int.add_comm];exact(Int.natCast_mul _ _).symm
     refine⟨_,rfl,_,rfl,_,rfl,_,rfl,_,_,rfl,rfl,.inr ⟨by lia,by lia⟩,_,_,rfl,rfl,by show 2≤sizeLine;decide,fun t ht=>?_⟩
     rw[hq]
     exact kt _ _ ⟨_,rfl⟩ ht
    ·intro zs H5 s5 hL5 po5 ez5 _
     have e5:zp zs=(wrow b i j).map ci2:=by rw[ez5];unfold wrow;rw[List.map_map];rfl
     have l5:zs.length≤5:=by rw[← bJ,e5,List.length_map];exact nQ b2
     refine⟨D,L,_,_,rfl,rfl,s5 _ _ hz4,hL5,by rw[cF,cF];exact Nat.le_trans (show _≤1005 by lia) (by decide),⟨_,_,_,rfl⟩,?_⟩
     rw[fN,← List.append_assoc,List.map_append]
     exact iY.ext hD sm4 hz4 po4 ez4 s5 po5 e5
   ·rintro σ H4 ⟨⟨x3,x6,x7,rfl⟩,P4⟩
    refine⟨_,rfl,_,rfl,_,_,rfl,rfl,.inr ⟨by lia,by lia⟩,⟨x3,x6,x7,?_⟩,?_⟩
    ·rw[Nat.pow_succ];rfl
    ·rw[fN];exact P4
  ·rintro σ Hc ⟨⟨x3,x6,x7,rfl⟩,sm,zs2,hD2,po2,ez2⟩
   refine⟨_,rfl,_,rfl,by show 2≤sizeLine;decide,fun t ht=>?_⟩
   have st:=aG (o:=.tup [.int ((b ^ f:Nat):Int),.ref D]) ht
   exact k t D zs2 _ (sm.trans st) (sm.free ht) hD aB (st _ _ hD2) (po2.same st) ez2
end
end K12
namespace K12
open PySem L2 NetM
abbrev sOne:Stmt:=top 34
theorem mR:(["_law_k","_law_order_here","_law_n"]:List Str).Nodup:=by decide +kernel
theorem aBi:(["_law_k","_law_some"]:List Str).Nodup:=by decide +kernel
theorem aBj:(["_law_tie"]:List Str).Nodup:=by decide +kernel
theorem rP:(["_law_one","_law_begins"]:List Str).Nodup:=by decide +kernel
theorem vV:(["_law_tie","_law_ties"]:List Str).Nodup:=by decide +kernel
theorem aBk{xs:List V}{k:Nat}:cutV xs none (some (k:Int))=xs.take k:=by
 have h1:HT.sIx xs.length 0 none=0:=rfl
 have h2:HT.sIx xs.length xs.length (some (k:Int))=min k xs.length:=by
  unfold HT.sIx
  simp
  try lia
 unfold cutV
 rw[h1,h2,List.drop_zero,Nat.sub_zero,List.take_eq_take_iff]
 simp
 try lia
theorem qB{β:Type}{K:PySem.W.Frag}{a D:Addr}{g:TG}{tt:TT}{te:TE}{fin:Hp→Prop}{σB:St}{H0:Hp}(ms:List β)(e G:β→V)(shape:St→Prop)(ha:H0 a=some (.lst (ms.map e)))(hD:H0 D=none)(hn:ms.length≤1000)(h0:shape σB)(hs:∀m σ H (R:V→St→Hp→Prop) (Kf:St→Hp→Prop),m∈ms→shape σ→Same H0 H→(∀σ2 H2,shape σ2→Same H H2→R (G m) σ2 H2)→
   g (e m) σ H fun σ2 H2=>tt σ2 H2 fun b H3=>if b=true then te σ2 H3 fun v H4=>R v σ2 H4 else Kf σ2 H3)(hd:∀H,Same H0 H→H D=some (.lst (ms.map G))→fin H):dN (Itl K a) g tt te D fin σB (upd H0 D (.lst [])):=by
 refine cJ (xs:=ms.map e) (fun i ys σ H=>shape σ∧Same H0 H∧H D=some (.lst ys)∧ys=(ms.take i).map G) ⟨h0,aG hD,aB,rfl⟩ (fun i ys σ H _ z=>SqL.of (z.2.1 _ _ ha)) ?_ ?_
 ·rintro i x ys σ H Kt Kf hx ⟨sh,sm,hDl,rfl⟩ kt kf
  rw[List.getElem?_map] at hx
  cases hz:ms[i]? with
  |none=>rw[hz] at hx;cases hx
  |some m=>
   rw[hz] at hx
   obtain rfl:e m=x:=Option.some.inj hx
   refine hs m σ H Kt Kf (List.mem_of_getElem? hz) sh sm (fun σ2 H2 sh2 s2=>?_)
   refine kt _ _ _ (s2 _ _ hDl) ?_ ⟨sh2,bE (sm.trans s2) hD,aB,?_⟩
   ·rw[List.length_map]
    exact Nat.lt_of_le_of_lt (List.length_take_le' _ _) (Nat.lt_of_le_of_lt hn (by decide))
   ·rw[List.take_add_one,hz,Option.toList_some,List.map_append];rfl
 ·rintro ys σ H ⟨_,sm,hDl,rfl⟩
  rw[List.length_map,List.take_length] at hDl
  exact hd H sm hDl
theorem rG{h:Int}:∀ {ts:Ts},((ts.map fun u=>V.int u.1).countP fun z=>eqV z (.int h))=deg ts h
 |[]=>rfl
 |u::ts=>by
  rw[List.map_cons,List.countP_cons,rG,show u::ts=[u]++ts from rfl,pW]
  have e:eqV (.int u.1) (.int h)=decide (u.1=h):=by rw[Bool.eq_iff_iff];simp[eqV]
  rw[e]
  unfold deg
  by_cases c:u.1=h <;> simp[c] <;> lia
section
variable {P:Program} {w:World} {K:PySem.W.Frag} {mg:Str→Option Value} {base:Heap}
theorem jA:aZ ["_law_pot_here","_law_n","_law_order_here","_law_ties","_law_turn","_law_some","_law_more","_law_begins"] ["_law_pot_here","_law_n"] (aN sOne):=⟨rfl,rfl,rfl,by decide +kernel,rfl,by decide +kernel,by decide +kernel⟩
def zQ:Sp:=fun vs H Q _=>∃ (p:Addr) (n:Nat),vs=[.ref p,.int n]∧2≤n∧n≤32∧bB H p∧∀ (r:Addr) (zs:Zs) (H':Hp),aI p H H'→bB H' p→H r=none→H' r=some (.lst (zr zs))→PO H' zs→Fine n (zp zs)→Q (.ref r) H'
theorem aEi{f:Addr}{fd:FuncData}(F:Fun K "_law_one_way" "_law_one_way" sOne f fd)(B:Bl mg)(D:Cal P w K mg base CX0 1 "_law_take" ["_law_pot_here","_law_many"] dZ)(OR:Cal P w K mg base CX0 2 "_law_order" ["_law_pot_here","_law_many"] iE):FnOk P w K mg base CX0 3 f fd ["_law_pot_here","_law_n"] zQ:=by
 refine F.ok jA (fun vs H Q E h=>?_) (fun cdv A outer s H vs Q E hr h=>?_)
 ·obtain⟨p,n,rfl,_⟩:=h
  rfl
 ·obtain⟨p,n,rfl,n1,n2,hp,q⟩:=h
  have h1:Room 1 _:=hr.mono (by decide)
  refine'⟨_,(aE (aO (i:=2) jA.nd rfl (Or.inr rfl) (aQ OR hr aT (aA (pv 0) (aA (pv 1) aD))))
   (aE (aO (i:=3) jA.nd rfl (Or.inr rfl) ?c1)
   (aE (cA PassesOwn.never rfl (bN rfl B.range (aA (aQ D h1 aT (aA (pv 0) (aA aK aD))) aD)) (aL (i:=4) jA.nd rfl (Or.inl rfl))
    (aE (aO (i:=5) jA.nd rfl (Or.inr rfl) (sI wD (aQ OR hr aT (aA (pv 0) (aA (pv 1) aD))) wA (wB (aY cL aK (aQ D h1 aT (aA (pv 0) (aA (aS (qL rfl) (by rfl) B.min PyProof.Rows.boot_min (aA aK (aA (aY jI (pv 1) aK) aD))) aD)))))))
    (aE (cM (i:=6) (g:=(bG 0)) (te:=(tTup (bK (tOp (rIxL K) (tVar 1) (tVar 0)) (bK (tOp (rIxL K) (tVar 1) (tOp (rI (fun _ j=>0<j) fun i j=>.int (i % j)) (tOp (rI0 fun i j=>.int (i+j)) (tVar 0) (tC (.int 1))) (tCB (fun xs H Q=>∃p ys,xs=[V.ref p]∧(SqL K H p ys∨SqT K H p ys)∧Q (.int ys.length) H) (bK (tVar 1) tNil)))) tNil)))) (NB:=["_law_k","_law_some"]) (src:=[none,some 5]) (bH (by kernel_rfl)) rfl (bN rfl B.range (aA (aS aW (by rfl) B.len PySem.boot_len (aA (pv 5) aD)) aD)) ?g2 ?t2 ?e2 jA.nd rfl rfl rfl)
    (aE (aO (i:=7) jA.nd rfl (Or.inr rfl) ?c3)
    (aJ (bR (PW.pt (iI (eU (aS (aAP rfl) (by rfl) B.all PyProof.Rows.boot_all (aA ?c5 aD))) (iA (aV hJ (aS (lK rfl) (by rfl) B.max PyProof.Rows.boot_max (aA ?c4 aD)) aK (aX _))))) (aJ (aO (i:=3) jA.nd rfl (Or.inr rfl) (aY aAp (pv 3) (pv 6)))) bD))))))
   (aJ (bA (pv 3)))))),?_⟩
  case c1=>
   refine' bV (g:=(bG 0)) (te:=(tTup (bK (tOp (rIxL K) (tVar 1) (tVar 0)) (bK (tOp (rIxL K) (tVar 1) (tOp (rI (fun _ j=>0<j) fun i j=>.int (i % j)) (tOp (rI0 fun i j=>.int (i+j)) (tVar 0) (tC (.int 1))) (tVar 2))) tNil)))) (NB:=["_law_k","_law_order_here","_law_n"]) (src:=[none,some 2,some 1]) (bH (by kernel_rfl)) rfl (bN rfl B.range (aA (pv 1) aD)) ?g ?t ?e
   case g=>exact fun cl C s₃ H₃ fp=>(aL (i:=0) mR rfl (Or.inl rfl) (Or.inr rfl))
   case t=>exact fun cl C s₃ H₃ fp=>bZ
   case e=>exact fun cl C s₃ H₃ fp=>(bT (aA (aR aP (pv 1) (pv 0) (fun _ _=>rfl)) (aA (aR aP (pv 1) (aY eJ (aY cL (pv 0) aK) (pv 2)) (fun _ _=>rfl)) aD)))
  case g2=>exact fun cl C s₃ H₃ fp=>(aL (i:=0) aBi rfl (Or.inl rfl) (Or.inr rfl))
  case t2=>exact fun cl C s₃ H₃ fp=>bZ
  case e2=>exact fun cl C s₃ H₃ fp=>(bT (aA (aR aP (pv 1) (pv 0) (fun _ _=>rfl)) (aA (aR aP (pv 1) (aY eJ (aY cL (pv 0) aK) (aS aW (by rfl) B.len PySem.boot_len (aA (pv 1) aD))) (fun _ _=>rfl)) aD)))
  case c3=>
   refine' bV (g:=(bG 0)) (te:=(tOp (rIxT K) (tVar 0) (tC (.int 0)))) (NB:=["_law_tie"]) (src:=[none]) (bH (by kernel_rfl)) rfl (bP (pv 3)) ?g ?t ?e
   case g=>exact fun cl C s₃ H₃ fp=>(aL (i:=0) aBj rfl (Or.inl rfl) (Or.inr rfl))
   case t=>exact fun cl C s₃ H₃ fp=>bZ
   case e=>exact fun cl C s₃ H₃ fp=>(aR cG (pv 0) aK (fun _ _=>rfl))
  case c4=>
   refine' bV (g:=(bG 0)) (te:=(tBM K "list" aAM (tVar 1) (bK (tVar 0) tNil))) (NB:=["_law_one","_law_begins"]) (src:=[none,some 7]) (bH (by kernel_rfl)) rfl (bP (pv 5)) ?g ?t ?e
   case g=>exact fun cl C s₃ H₃ fp=>(aL (i:=0) rP rfl (Or.inl rfl) (Or.inr rfl))
   case t=>exact fun cl C s₃ H₃ fp=>bZ
   case e=>exact fun cl C s₃ H₃ fp=>(cX PySem.F.plainAttrs_list PySem.F.slot_list_count PySem.F.type_list_count aBI (pv 1) (aA (pv 0) aD))
  case c5=>
   refine' bV (g:=(bG 0)) (te:=(tOp (rInP K true) (tVar 0) (tVar 1))) (NB:=["_law_tie","_law_ties"]) (src:=[none,some 3]) (bH (by kernel_rfl)) rfl (bP (pv 6)) ?g ?t ?e
   case g=>exact fun cl C s₃ H₃ fp=>(aL (i:=0) vV rfl (Or.inl rfl) (Or.inr rfl))
   case t=>exact fun cl C s₃ H₃ fp=>bZ
   case e=>exact fun cl C s₃ H₃ fp=>(iB (rC hr.u) (pv 0) (pv 1) rfl)
  refine⟨_,rfl,_,rfl,p,n,rfl,n2,hp,fun O xs H1 s1 hp1 hO hO1 pm=>?_⟩
  have xl:xs.length=n:=by have:=pm.length_eq;rwa [List.length_range] at this
  refine⟨_,rfl,(n:Int),rfl,by lia,by lia,fun T0 hT0=>?_⟩
  refine kE (lo:=0) (n:=n) (fun k=>(ci (xs.getD k 0),ci (xs.getD ((k+1) % xs.length) 0))) (fun σ=>∃x,σ=[x,some (.ref O),some (.int n)]) hT0 (by lia) ⟨_,rfl⟩ ?_ ?_
  ·rintro k σ H2 R Kf hk ⟨x,rfl⟩ sm2 kt
   have e1:(0:Int)+(k:Int)=((k:Nat):Int):=Int.zero_add _
   have e2:(((k:Nat):Int)+1) % (n:Int)=(((k+1) % n:Nat):Int):=by lia
   have hk2:(k+1) % n<n:=Nat.mod_lt _ (by lia)
   have hO2:=sm2 _ _ hO1
   rw[e1]
   rw[xl] at kt
   refine⟨_,rfl,_,rfl,O,_,_,_,rfl,rfl,SqL.of hO2,aM (cZ (by lia)),_,rfl,_,rfl,_,_,rfl,rfl,_,rfl,_,_,rfl,rfl,(by show (0:Int)<(n:Int);lia),O,_,_,_,rfl,rfl,SqL.of hO2,by rw[e2];exact aM (cZ (by lia)),by show 2≤sizeLine;decide,fun t ht=>?_⟩
   exact kt _ _ ⟨_,rfl⟩ ht
  intro zs0 H2 s2 hT2 po2 ez2 _
  have F2:Fine n (zp zs0):=by
   rw[ez2]
   refine(rE n1 n2 pm).perm ?_
   have:=lO (xs:=xs)
   unfold cyc2 at this
   rw[xl] at this ⊢
   exact this
  have hT0H:H T0=none:=Classical.byContradiction fun z=>by
   cases e:H T0 with
   |none=>exact z e
   |some o=>
    by_cases c:T0=p
    ·subst c
     obtain⟨x,y,e',_⟩:=hp1
     rw[hT0] at e';cases e'
    ·rw[s1 _ _ e c] at hT0;cases hT0
  have hp2:=hp1.same s2
  refine⟨_,rfl,p,6,rfl,by decide,by decide,hp2,fun d H3 hd s3 hp3=>⟨(d:Int),rfl,by lia,by lia,cI (n:=d) (lo:=0) (fun i σ Hc=>∃ (T:Addr) (zs:Zs),(∃a b c e,σ=[some (.ref p),some (.int n),some (.ref O),some (.ref T),a,b,c,e])∧aI p H Hc∧bB Hc p∧H T=none∧Hc T=some (.lst (zr zs))∧PO Hc zs∧Fine n (zp zs)) ⟨T0,zs0,⟨_,_,_,_,rfl⟩,(s1.trans (aI.of s2)).trans s3,hp3,hT0H,s3 _ _ hT2 (hp.ne hT0H),po2.sameE s3 hp2,F2⟩ ?_ ?_⟩⟩
  ·rintro i σ Hc hi ⟨T,zs,⟨x4,x5,x6,x7,rfl⟩,sc,hpc,hT,hTc,po,Fi⟩
   have nTp:T≠p:=hp.ne hT
   have hzl:zs.length≤256:=by have:=Fi.len;rwa [bJ] at this
   refine⟨_,rfl,_,rfl,p,n,rfl,n2,hpc,fun L ys H4 s4 hp4 hL hL4 pm4=>?_⟩
   have yl:ys.length=n:=by have:=pm4.length_eq;rwa [List.length_range] at this
   have nLp:L≠p:=hpc.ne hL
   have em:(if (n:Int)-1<5 then (n:Int)-1 else 5)=((min 5 (n-1):Nat):Int):=by split <;> lia
   refine⟨_,rfl,_,rfl,_,_,rfl,rfl,5,_,rfl,p,min 5 (n-1),by rw[em];rfl,by lia,by lia,hp4,fun d2 H5 hd2 s5 hp5=>?_⟩
   have hd2':d2<5∧d2<n-1:=by lia
   have e3:(2:Int)+(d2:Int)=((2+d2:Nat):Int):=by lia
   refine⟨_,_,rfl,rfl,_,rfl,L,_,rfl,SqL.of (s5 _ _ hL4 nLp),fun S hS=>?_⟩
   rw[e3,aBk,← List.map_take]
   have sS:=aG (o:=.lst (NV (ys.take (2+d2)))) hS
   have hS6:(upd H5 S (.lst (NV (ys.take (2+d2))))) S=some (.lst (NV (ys.take (2+d2)))):=aB
   have s6:aI p H _:=((sc.trans s4).trans s5).trans (aI.of sS)
   have hp6:=hp5.same sS
   have hT6:=sS _ _ (s5 _ _ (s4 _ _ hTc nTp) nTp)
   have po6:=((po.sameE s4 hpc).sameE s5 hp4).same sS
   have cnd:(ys.take (2+d2)).Nodup:=(pm4.nodup_iff.mpr List.nodup_range).sublist (List.take_sublist _ _)
   have clt:∀x∈ys.take (2+d2),x<n:=fun x hx=>List.mem_range.mp (pm4.mem_iff.mp (List.mem_of_mem_take hx))
   have cl:(ys.take (2+d2)).length=2+d2:=by rw[List.length_take];lia
   generalize ys.take (2+d2)=cs at *
   generalize upd H5 S _=H6 at *
   refine⟨_,rfl,S,_,rfl,.inl (SqL.of hS6),(((NV cs).length:Nat):Int),rfl,by lia,by rw[aU];lia,fun M hM=>?_⟩
   rw[Int.toNat_natCast,aU]
   refine kE (lo:=0) (n:=cs.length) (fun k=>(ci (cs.getD k 0),ci (cs.getD ((k+1) % cs.length) 0))) (fun σ=>∃x,σ=[x,some (.ref S)]) hM (by lia) ⟨_,rfl⟩ ?_ ?_
   ·rintro k σ H7 R Kf hk ⟨x,rfl⟩ sm7 kt
    have e1:(0:Int)+(k:Int)=((k:Nat):Int):=Int.zero_add _
    have e2:(((k:Nat):Int)+1) % (((NV cs).length:Nat):Int)=(((k+1) % cs.length:Nat):Int):=by rw[aU];lia
    have hk2:(k+1) % cs.length<cs.length:=Nat.mod_lt _ (by lia)
    have hS7:=sm7 _ _ hS6
    rw[e1]
    refine⟨_,rfl,_,rfl,S,_,_,_,rfl,rfl,SqL.of hS7,aM (cZ (by lia)),_,rfl,_,rfl,_,_,rfl,rfl,_,rfl,S,_,rfl,.inl (SqL.of hS7),_,_,rfl,rfl,(by show (0:Int)<(((NV cs).length:Nat):Int);rw[aU];lia),S,_,_,_,rfl,rfl,SqL.of hS7,by rw[e2];exact aM (cZ (by lia)),by show 2≤sizeLine;decide,fun t ht=>?_⟩
    exact kt _ _ ⟨_,rfl⟩ ht
   intro ms H7 s7 hM7 poM ezM _
   have ecy:zp ms=cyc2 cs:=ezM
   have ml:ms.length=cs.length:=by rw[← bJ,ezM,List.length_map,List.length_range]
   have hT7:=s7 _ _ hT6
   have po7:=po6.same s7
   have hS7:=s7 _ _ hS6
   refine⟨_,rfl,T,rfl,⟨_,SqL.of hT7⟩,fun Bg hB=>?_⟩
   refine qB zs (fun z=>V.ref z.1) (fun z=>V.int z.2.1) (fun σ=>∃x,σ=[x]) hT7 hB (by lia) ⟨_,rfl⟩ ?_ ?_
   ·rintro z σ H8 R Kf hz ⟨x,rfl⟩ sm8 kt
    exact⟨_,rfl,z.1,_,0,_,rfl,rfl,SqT.of (sm8 _ _ (po7 z hz)),rfl,kt _ _ ⟨_,rfl⟩ (Same.refl _)⟩
   intro H8 s8 hB8
   have hT8:=s8 _ _ hT7
   have hM8:=s8 _ _ hM7
   have hS8:=s8 _ _ hS7
   have po8:=po7.same s8
   have poM8:=poM.same s8
   have sH8:aI p H H8:=(s6.trans (aI.of s7)).trans (aI.of s8)
   have hp8:=(hp6.same s7).same s8
   refine⟨_,rfl,M,rfl,⟨_,SqL.of hM8⟩,fun Al hAl=>?_⟩
   refine qB ms (fun z=>V.ref z.1) (fun z=>V.bl (!decide (z.2∈zp zs))) (fun σ=>∃x,σ=[x,some (.ref T)]) hM8 hAl (by lia) ⟨_,rfl⟩ ?_ ?_
   ·rintro z σ H9 R Kf hz ⟨x,rfl⟩ sm9 kt
    obtain⟨l1,l2⟩:=aCy (K:=K) (po8.same sm9)
    exact⟨_,rfl,_,rfl,z.1,T,z.2,zs.map (fun z:Addr×Int×Int=>z.1),zp zs,rfl,rfl,SqT.of (sm9 _ _ (poM8 z hz)),by rw[← jP];exact SqL.of (sm9 _ _ hT8),by rw[List.length_map];exact l1,l2,kt _ _ ⟨_,rfl⟩ (Same.refl _)⟩
   intro H9 s9 hA9
   have hA9':H9 Al=some (.lst ((ms.map fun z=>!decide (z.2∈zp zs)).map V.bl)):=by rw[hA9,List.map_map];rfl
   refine⟨Al,_,rfl,SqL.of hA9',_,rfl,?_⟩
   have hT9:=s9 _ _ hT8
   have po9:=po8.same s9
   have sH9:aI p H H9:=sH8.trans (aI.of s9)
   have hp9:=hp8.same s9
   refine ite2 (fun c1=>?_) (fun c1=>?_)
   ·have hS9:=s9 _ _ hS8
    have hB9:=s9 _ _ hB8
    refine⟨_,rfl,S,rfl,⟨_,SqL.of hS9⟩,fun Ct hC=>?_⟩
    refine qB cs (fun (x:Nat)=>V.int (x:Int)) (fun (x:Nat)=>V.int ((deg (zp zs) (ci x):Nat):Int)) (fun σ=>∃x,σ=[x,some (.ref Bg)]) hS9 hC (by lia) ⟨_,rfl⟩ ?_ ?_
    ·rintro x σ H10 R Kf hx ⟨x',rfl⟩ sm10 kt
     have hB10:=sm10 _ _ hB9
     refine⟨_,rfl,.inl ⟨rfl,_,SqL.of hB10⟩,_,rfl,Bg,_,_,rfl,rfl,hB10,rfl,?_,?_⟩
     ·rw[List.all_map];exact List.all_eq_true.mpr fun z _=>rfl
     ·have e:=rG (ts:=zp zs) (h:=ci x)
      unfold zp at e
      rw[List.map_map] at e
      have e':(zs.map fun z=>V.int z.2.1).countP (fun z=>eqV z (.int (ci x)))=deg (zp zs) (ci x):=e
      rw[show V.int (x:Int)=V.int (ci x) from rfl,e']
      exact kt _ _ ⟨_,rfl⟩ (Same.refl _)
    intro H10 s10 hC10
    have hC10':H10 Ct=some (.lst ((cs.map fun (x:Nat)=>((deg (zp zs) (ci x):Nat):Int)).map V.int)):=by rw[hC10,List.map_map];rfl
    refine⟨Ct,_,rfl,SqL.of hC10',fun z=>?_,fun Mx hMx hall=>⟨_,_,rfl,rfl,_,rfl,?_⟩⟩
    ·have:=congrArg List.length z
     rw[List.length_map,cl] at this
     simp at this
    have sH10:aI p H H10:=sH9.trans (aI.of s10)
    have hp10:=hp9.same s10
    have hT10:=s10 _ _ hT9
    have po10:=po9.same s10
    refine ite2 (fun c2=>?_) (fun c2=>?_)
    ·have hM10:=s10 _ _ (s9 _ _ hM8)
     refine⟨_,rfl,_,rfl,T,M,_,_,rfl,rfl,hT10,hM10,by rw[cF,cF];exact Nat.le_trans (show _≤300 by lia) (by decide),fun N hN=>?_⟩
     have sN:=aG (o:=.lst (zr zs++zr ms)) hN
     have hNH:H N=none:=Classical.byContradiction fun z=>by
      cases e:H N with
      |none=>exact z e
      |some o=>
       by_cases c:N=p
       ·subst c
        obtain⟨x,y,e',_⟩:=hp10
        rw[hN] at e';cases e'
       ·rw[sH10 _ _ e c] at hN;cases hN
     refine⟨N,zs++ms,⟨_,_,_,_,rfl⟩,sH10.trans (aI.of sN),hp10.same sN,hNH,by rw[aB,dE],(po10.append ((poM8.same s9).same s10)).same sN,?_⟩
     rw[dF,ecy]
     refine Fi.round cnd clt (by lia) (fun x hx=>?_) (fun t ht=>?_)
     ·have h7:((deg (zp zs) (ci x):Nat):Int)≤Mx:=hall _ (List.mem_map.mpr ⟨x,hx,rfl⟩)
      have h8:Mx<8:=of_decide_eq_true c2
      lia
     ·rw[← ecy] at ht
      obtain⟨z,hz,rfl⟩:=List.mem_map.mp ht
      have:=List.all_eq_true.mp c1 _ (List.mem_map.mpr ⟨z,hz,rfl⟩)
      simpa using this
    ·exact⟨T,zs,⟨_,_,_,_,rfl⟩,sH10,hp10,hT,hT10,po10,Fi⟩
   ·refine iteF ?_
    exact⟨T,zs,⟨_,_,_,_,rfl⟩,sH9,hp9,hT,hT9,po9,Fi⟩
  ·rintro σ Hc ⟨T,zs,⟨x4,x5,x6,x7,rfl⟩,sc,hpc,hT,hTc,po,Fi⟩
   exact⟨_,rfl,q T zs Hc sc hpc hT hTc po Fi⟩
end
end K12
namespace L2
open PySem PySem.Spec PyProof.Rows
def rV:List Nat→TA
 |[]=>tNil
 |n::ns=>bK (tC (.int (n:Nat))) (rV ns)
def zR:List (List Nat)→TA
 |[]=>tNil
 |c::cs=>bK (tTup (rV c)) (zR cs)
def rdN:Expr→Option Nat
 |.Constant (.int (.ofNat n)) _ _=>some n
 |_=>none
def rdNs:List Expr→Option (List Nat)
 |[]=>some []
 |e::es=>(rdN e).bind fun n=>(rdNs es).map (n::·)
def rdTs:List Expr→Option (List (List Nat))
 |[]=>some []
 |.Tuple es _ _::r=>(rdNs es).bind fun c=>(rdTs r).map (c::·)
 |_=>none
theorem aEj{e:Expr}{n:Nat}(h:rdN e=some n):∃j pos,e=.Constant (.int (n:Nat)) j pos:=by
 unfold rdN at h
 split at h
 ·cases h;exact⟨_,_,rfl⟩
 ·cases h
theorem xJ{X:Cx}:∀ {es:List Expr} {ns:List Nat},rdNs es=some ns→PA X es (rV ns)
 |[],ns,h=>by cases h;exact aD
 |e::es,ns,h=>by
  unfold rdNs at h
  obtain⟨n,h1,h2⟩:=Option.bind_eq_some_iff.mp h
  obtain⟨ms,h3,rfl⟩:=Option.map_eq_some_iff.mp h2
  obtain⟨j,pos,rfl⟩:=aEj h1
  exact aA aK (xJ h3)
theorem qC{X:Cx}:∀ {es:List Expr} {cs:List (List Nat)},rdTs es=some cs→PA X es (zR cs)
 |[],cs,h=>by cases h;exact aD
 |e::r,cs,h=>by
  unfold rdTs at h
  split at h
  ·cases h;contradiction
  ·rename_i es _ _ r' e'
   cases e'
   obtain⟨n,h1,h2⟩:=Option.bind_eq_some_iff.mp h
   obtain⟨ms,h3,rfl⟩:=Option.map_eq_some_iff.mp h2
   exact aA (bT (xJ h1)) (qC h3)
  ·cases h
end L2
namespace K12
open PySem L2 NetM
abbrev sNet:Stmt:=top 35
theorem pA:(["_law_k","_law_order_here"]:List Str).Nodup:=by decide +kernel
theorem aDv{xs:List Nat}{k:Nat}(h:k<xs.length):atI (NV xs) ((k:Int)-1)=some (.int ((xs.getD (NetM.pk xs.length k) 0:Nat):Int)):=by
 unfold NetM.pk
 by_cases k0:k=0
 ·subst k0
  rw[if_pos rfl]
  have e:NV xs=NV (xs.take (xs.length-1))++[.int ((xs.getD (xs.length-1) 0:Nat):Int)]:=by
   rw[gN]
   congr 1
   conv=>lhs;rw[← List.take_append_drop (xs.length-1) xs]
   rw[List.drop_eq_getElem_cons (by lia),List.drop_eq_nil_of_le (by lia),cY (by lia)]
  rw[e]
  exact aBy _ _
 ·rw[if_neg k0,show (k:Int)-1=((k-1:Nat):Int) by lia]
  exact aM (by rw[cY (by lia)];exact aD5 (by lia))
theorem aBl:∀ {ns:List Nat} {σ:St} {H:Hp} {Q:List V→Hp→Prop},Q (NV ns) H→rV ns σ H Q
 |[],σ,H,Q,h=>h
 |n::ns,σ,H,Q,h=>aBl (ns:=ns) (Q:=fun xs H2=>Q (.int (n:Nat)::xs) H2) h
theorem uJ:∀ {cs:List (List Nat)} {σ:St} {H:Hp} {Q:List V→Hp→Prop},(∀c∈cs,c.length≤5)→(∀ (as:List Addr) (H':Hp),Same H H'→as.length=cs.length→(∀i,i<cs.length→H' (as.getD i 0)=some (.tup (NV (cs.getD i []))))→Q (as.map V.ref) H')→zR cs σ H Q
 |[],σ,H,Q,_,h=>h [] H (Same.refl _) rfl fun i hi=>nomatch hi
 |c::cs,σ,H,Q,hc,h=>by
  refine aBl (ns:=c) ⟨?_,fun t ht=>?_⟩
  ·rw[aU];exact Nat.le_trans (hc c List.mem_cons_self) (by decide)
  refine uJ (cs:=cs) (fun c hc'=>hc c (List.mem_cons_of_mem _ hc')) fun as H' s l e=>?_
  refine h (t::as) H' ((aG ht).trans s) (congrArg (·+1) l) fun i hi=>?_
  cases i with
  |zero=>exact s _ _ aB
  |succ i=>exact e i (Nat.lt_of_succ_lt_succ hi)
section
variable {P:Program} {w:World} {K:PySem.W.Frag} {mg:Str→Option Value} {base:Heap}
theorem gE:aZ ["_law_pot_here","_law_way","_law_n","_law_order_here","_law_sides","_law_pairs","_law_figures","_law_base"] ["_law_pot_here"] (aN sNet):=⟨rfl,rfl,rfl,by decide +kernel,rfl,by decide +kernel,by decide +kernel⟩
def zS(p:Addr)(H:Hp)(Q:V→Hp→Prop):Prop:=∀ (t r:Addr) (n:Nat) (zs:Zs) (H':Hp),aI p H H'→bB H' p→H t=none→H' t=some (.tup [.int n,.ref r])→H r=none→H' r=some (.lst (zr zs))→PO H' zs→Fine n (zp zs)→Q (.ref t) H'
def zU:Sp:=fun vs H Q _=>∃ (p:Addr),vs=[.ref p]∧bB H p∧zS p H Q
theorem zS.go{p r t:Addr}{H H2:Hp}{Q:V→Hp→Prop}{n:Nat}{zs:Zs}(k:zS p H Q)(s:aI p H H2)(hp:bB H2 p)(hr:H r=none)(hr2:H2 r=some (.lst (zr zs)))(po:PO H2 zs)(F:Fine n (zp zs))(ht:H2 t=none):Q (.ref t) (upd H2 t (.tup [.int n,.ref r])):=
 k t r n zs _ (s.trans (aI.of (aG ht))) (hp.same (aG ht)) (s.free hp.full ht) aB hr (aG ht _ _ hr2) (po.putN ht) F
abbrev bd(i:Nat):Stmt:=(cC sNet).getD i (.Pass ⟨0,0,0,0⟩)
def ifT:Stmt→Expr
 |.If c _ _ _=>c
 |_=>.Constant .none 0 ⟨0,0,0,0⟩
def ifB(i:Nat):Stmt→Stmt
 |.If _ b _ _=>b.getD i (.Pass ⟨0,0,0,0⟩)
 |_=>.Pass ⟨0,0,0,0⟩
theorem aCb:∃es1 q1 q2 q3 q4 es2 a1 a2 k a3 a4 a5 j a6 a7 q5 q6 q7 q8 cs1 cs2,cC sNet=[bd 0,bd 1,bd 2,bd 3,.If (ifT (bd 4)) [.Assign [.Name "_law_sides" q1] (.List es1 q2) q3,ifB 1 (bd 4),ifB 2 (bd 4)] [] q4,
   .If (ifT (bd 5)) [.Assign [.Tuple [.Name "_law_figures" a1,.Name "_law_base" a2] k a3] (.Subscript (.List es2 q5) (.Call (.Name "_law_take" a4) [.Name "_law_pot_here" a5,.Constant (.int 9) j a6] [] a7) q6) q7,ifB 1 (bd 5),ifB 2 (bd 5)] [] q8,bd 6,bd 7]∧rdTs es1=some cs1∧rdTs es2=some cs2∧cs1=[[5],[8],[2,2],[3,3],[3,4],[2,3,4],[3,3,3],[2,2,2,2,2],[4,8]]∧cs2=[[1,3],[1,5],[2,2],[2,3],[2,4],[2,5],[3,3],[4,2],[5,2]]:=
 ⟨_,_,_,_,_,_,_,_,_,_,_,_,_,_,_,_,_,_,_,[[5],[8],[2,2],[3,3],[3,4],[2,3,4],[3,3,3],[2,2,2,2,2],[4,8]],[[1,3],[1,5],[2,2],[2,3],[2,4],[2,5],[3,3],[4,2],[5,2]],rfl,by decide +kernel,by decide +kernel,rfl,rfl⟩
theorem aEk{f:Addr}{fd:FuncData}(F:Fun K "_law_net" "_law_net" sNet f fd)(B:Bl mg)(D:Cal P w K mg base CX0 1 "_law_take" ["_law_pot_here","_law_many"] dZ)(OR:Cal P w K mg base CX0 2 "_law_order" ["_law_pot_here","_law_many"] iE)(TR:Cal P w K mg base CX0 2 "_law_tree" ["_law_pot_here","_law_n"] iT)(ME:Cal P w K mg base CX0 3 "_law_mesh" ["_law_pot_here","_law_n"] iT)(BO:Cal P w K mg base CX0 1 "_law_both" ["_law_pairs"] uH)(BX:Cal P w K mg base CX0 1 "_law_box" ["_law_sides"] zP)(WO:Cal P w K mg base CX0 1 "_law_words" ["_law_figures","_law_base"] qA)(OW:Cal P w K mg base CX0 3 "_law_one_way" ["_law_pot_here","_law_n"] zQ):FnOk P w K mg base CX0 4 f fd ["_law_pot_here"] zU:=by
 refine F.ok gE (fun vs H Q E h=>?_) (fun cdv A outer s H vs Q E hr h=>?_)
 ·obtain⟨p,rfl,_⟩:=h
  rfl
 ·obtain⟨p,rfl,hp,q⟩:=h
  have h1:Room 1 _:=hr.mono (by decide)
  have h2:Room 2 _:=hr.mono (by decide)
  obtain⟨es1,q1,q2,q3,q4,es2,a1,a2,k,a3,a4,a5,j,a6,a7,q5,q6,q7,q8,cs1,cs2,eb,hes1,hes2,ec1,ec2⟩:=aCb
  rw[eb]
  refine'⟨_,(aE (aO (i:=1) gE.nd rfl (Or.inl rfl) (aQ D h1 aT (aA (pv 0) (aA aK aD))))
   (aE (aO (i:=2) gE.nd rfl (Or.inl rfl) (aY cL aK (aQ D h1 aT (aA (pv 0) (aA (aR aP (bU (aA aK (aA aK (aA aK aD)))) (aQ D h1 aT (aA (pv 0) (aA aK aD))) (fun _ _=>rfl)) aD)))))
   (aE (bR (aV hJ (pv 1) aK (aX _)) (aJ (bA (bT (aA (pv 2) (aA (aQ BO h1 aT (aA (aQ TR h2 aT (aA (pv 0) (aA (pv 2) aD))) aD)) aD))))) bD)
   (aE (bR (aV dM (pv 1) aK (aX _)) (aE (aO (i:=3) gE.nd rfl (Or.inr rfl) (aQ OR h2 aT (aA (pv 0) (aA (aS (iU rfl) (by rfl) B.max PyProof.Rows.boot_max (aA aK (aA (pv 2) aD))) aD))))
    (aJ (bA (bT (aA (aS aW (by rfl) B.len PySem.boot_len (aA (pv 3) aD)) (aA (aQ BO h1 aT (aA ?c1 aD)) aD)))))) bD)
   (aE (bR (aV dM (pv 1) aK (aX _)) (aE (aO (i:=4) gE.nd rfl (Or.inl rfl) (bU (qC hes1)))
    (aE (cK (aQ BX h1 aT (aA (aR aP (pv 4) (aQ D h1 aT (aA (pv 0) (aA aK aD))) (fun _ _=>rfl)) aD)) (dR (n:=2) rfl (bC (aL (i:=2) gE.nd rfl (Or.inl rfl)) (bC (aL (i:=5) gE.nd rfl (Or.inl rfl)) cR))))
    (aJ (bA (bT (aA (pv 2) (aA (aQ BO h1 aT (aA (pv 5) aD)) aD))))))) bD)
   (aE (bR (aV dM (pv 1) aK (aX _)) (aE (cK (aR aP (bU (qC hes2)) (aQ D h1 aT (aA (pv 0) (aA aK aD))) (fun _ _=>rfl)) (dR (n:=2) rfl (bC (aL (i:=6) gE.nd rfl (Or.inl rfl)) (bC (aL (i:=7) gE.nd rfl (Or.inl rfl)) cR))))
    (aE (cK (aQ WO h1 aT (aA (pv 6) (aA (pv 7) aD))) (dR (n:=2) rfl (bC (aL (i:=2) gE.nd rfl (Or.inl rfl)) (bC (aL (i:=5) gE.nd rfl (Or.inl rfl)) cR))))
    (aJ (bA (bT (aA (pv 2) (aA (aQ BO h1 aT (aA (pv 5) aD)) aD))))))) bD)
   (aE (bR (aV dM (pv 1) aK (aX _)) (aJ (bA (bT (aA (pv 2) (aA (aQ BO h1 aT (aA (aQ ME hr aT (aA (pv 0) (aA (pv 2) aD))) aD)) aD))))) bD)
   (aJ (bA (bT (aA (pv 2) (aA (aQ OW hr aT (aA (pv 0) (aA (pv 2) aD))) aD)))))))))))),?_⟩
  case c1=>
   refine' bV (g:=(bG 0)) (te:=(tTup (bK (tOp (rIxL K) (tVar 1) (tVar 0)) (bK (tOp (rIxL K) (tVar 1) (tOp (rI0 fun i j=>.int (i-j)) (tVar 0) (tC (.int 1)))) tNil)))) (NB:=["_law_k","_law_order_here"]) (src:=[none,some 3]) (bH (by kernel_rfl)) rfl (bN rfl B.range (aA (aS aW (by rfl) B.len PySem.boot_len (aA (pv 3) aD)) aD)) ?g ?t ?e
   case g=>exact fun cl C s₃ H₃ fp=>(aL (i:=0) pA rfl (Or.inl rfl) (Or.inr rfl))
   case t=>exact fun cl C s₃ H₃ fp=>bZ
   case e=>exact fun cl C s₃ H₃ fp=>(bT (aA (aR aP (pv 1) (pv 0) (fun _ _=>rfl)) (aA (aR aP (pv 1) (aY jI (pv 0) aK) (fun _ _=>rfl)) aD)))
  refine⟨_,rfl,p,8,rfl,by decide,by decide,hp,fun wy H1 hw s1 hp1=>⟨_,rfl,by show 3≤sizeLine;decide,fun L hL=>⟨_,rfl,p,3,rfl,by decide,by decide,hp1.same (aG hL),fun d1 H2 hd1 s2 hp2=>?_⟩⟩⟩
  have nL:L≠p:=hp1.ne hL
  obtain⟨mm,em,mm1,mm2⟩:∃m:Nat,([V.int 3,.int 9,.int 31]:List V)[d1]?=some (.int m)∧0<m∧m≤31:=by
   match d1,hd1 with
   |0,_=>exact⟨3,rfl,by decide,by decide⟩
   |1,_=>exact⟨9,rfl,by decide,by decide⟩
   |2,_=>exact⟨31,rfl,by decide,by decide⟩
  refine⟨L,_,_,_,rfl,rfl,SqL.of (s2 _ _ aB nL),aM em,p,mm,rfl,mm1,by lia,hp2,fun d2 H3 hd2 s3 hp3=>?_⟩
  have e2:(2:Int)+(d2:Int)=((2+d2:Nat):Int):=by lia
  refine⟨_,_,rfl,rfl,?_⟩
  change bG 2 (V.int ((2:Int)+(d2:Int))) _ _ _
  rw[e2]
  have n1:2≤2+d2:=by lia
  have n2:2+d2≤32:=by lia
  generalize 2+d2=n at *
  have sH:aI p H H3:=((s1.trans (aI.of (aG hL))).trans s2).trans s3
  clear s1 s2 s3 hp1 hp2 hL nL
  refine⟨_,rfl,_,_,rfl,rfl,_,rfl,ite2 (fun c=>?_) (fun c0=>?_)⟩
  ·refine⟨_,rfl,_,rfl,_,rfl,p,n,rfl,n1,n2,hp3,fun r zs H4 s4 hp4 hr4 hr4' po F4 _=>?_⟩
   have zl:zs.length≤256:=by have:=F4.len;rw[fU,bJ] at this;lia
   refine⟨r,zs,rfl,hr4',po,by lia,fun r2 zs2 H5 s5 hr5 hr5' po5 e5=>⟨by show 2≤sizeLine;decide,fun t ht=>?_⟩⟩
   exact q.go ((sH.trans s4).trans (aI.of s5)) (hp4.same s5) ((sH.trans s4).free hp4.full hr5) hr5' po5 (by rw[e5];exact F4) ht
  refine⟨_,rfl,rfl,_,rfl,ite2 (fun c=>?_) (fun c1=>?_)⟩
  ·have em:(if (3:Int)<(n:Int) then (n:Int) else 3)=((max 3 n:Nat):Int):=by split <;> lia
   refine⟨_,rfl,_,rfl,3,_,rfl,p,max 3 n,by rw[em];rfl,by lia,hp3,fun O xs H4 s4 hp4 hO hO4 pm=>?_⟩
   have m1:3≤max 3 n:=by lia
   have m2:max 3 n≤32:=by lia
   generalize max 3 n=m at *
   have xl:xs.length=m:=by have:=pm.length_eq;rwa [List.length_range] at this
   refine⟨_,rfl,O,_,rfl,.inl (SqL.of hO4),_,rfl,O,_,rfl,.inl (SqL.of hO4),(((NV xs).length:Nat):Int),rfl,by lia,by rw[aU];lia,fun R hR=>?_⟩
   rw[Int.toNat_natCast,aU]
   refine kE (lo:=0) (n:=xs.length) (fun k=>swp (ci (xs.getD (pk xs.length k) 0),ci (xs.getD k 0))) (fun σ=>∃x,σ=[x,some (.ref O)]) hR (by lia) ⟨_,rfl⟩ ?_ ?_
   ·rintro k σ H5 R' Kf hk ⟨x,rfl⟩ sm5 kt
    have hO5:=sm5 _ _ hO4
    rw[Int.zero_add]
    refine⟨_,rfl,_,rfl,O,_,_,_,rfl,rfl,SqL.of hO5,aM (cZ hk),_,rfl,_,rfl,_,_,rfl,rfl,O,_,_,_,rfl,rfl,SqL.of hO5,aDv hk,by show 2≤sizeLine;decide,fun t ht=>?_⟩
    exact kt _ _ ⟨_,rfl⟩ ht
   intro zs H5 s5 hR5 po5 ez5 _
   have ez:zp zs=(cyc xs).map swp:=by rw[ez5];unfold cyc;rw[List.map_map];rfl
   have zl:zs.length≤32:=by rw[← bJ,ez5,List.length_map,List.length_range];lia
   refine⟨R,zs,rfl,hR5,po5,by lia,fun r2 zs2 H6 s6 hr6 hr6' po6 e6=>⟨by show 2≤sizeLine;decide,fun t ht=>?_⟩⟩
   rw[xl]
   refine q.go ((sH.trans s4).trans (aI.of (s5.trans s6))) ((hp4.same s5).same s6) ((sH.trans s4).free hp4.full (s5.free hr6)) hr6' po6 ?_ ht
   rw[e6,ez]
   exact(vS m1 m2 pm).perm vT
  refine⟨_,rfl,rfl,_,rfl,ite2 (fun c=>?_) (fun c2=>?_)⟩
  ·refine uJ (cs:=cs1) (by rw[ec1];decide) fun as H4 s4 la ea=>⟨?_,fun S hS=>?_⟩
   ·rw[List.length_map,la,ec1];show 9≤sizeLine;decide
   have sS:=aG (o:=.lst (as.map V.ref)) hS
   refine⟨_,rfl,_,rfl,p,9,rfl,by decide,by decide,(hp3.same s4).same sS,fun d H5 hd s5 hp5=>?_⟩
   have had:as[d]?=some (as.getD d 0):=by rw[List.getD_eq_getElem?_getD,List.getElem?_eq_getElem (by rw[la,ec1];exact hd)];rfl
   have nS:S≠p:=(hp3.same s4).ne hS
   have ga:=ea d (by rw[ec1];exact hd)
   have ga5:=s5 _ _ (sS _ _ ga) ((hp3.same s4).neT ga)
   have sd:∀d,d<9→zO (([[5],[8],[2,2],[3,3],[3,4],[2,3,4],[3,3,3],[2,2,2,2,2],[4,8]]:List (List Nat)).getD d []):=by unfold zO;decide
   have sd:=sd d hd
   rw[← ec1] at sd
   refine⟨S,_,_,_,rfl,rfl,SqL.of (s5 _ _ aB nS),aM (by rw[List.getElem?_map,had];rfl),_,_,rfl,ga5,sd,fun t r zs H6 s6 ht hr6 ht6 hr6' po6 e6=>?_⟩
   refine⟨t,_,rfl,SqT.of ht6,rfl,_,_,rfl,_,_,rfl,rfl,?_⟩
   generalize hns:List.getD cs1 d []=ns at sd ga5 e6
   clear ga ea
   have Fb:=aBT (fun x hx=>(sd.2.2.1 x hx).1) (by rintro rfl;exact absurd sd.1 (by decide)) sd.2.2.2
   have zl:zs.length≤256:=by have:=Fb.len;rw[← e6,fU,bJ] at this;lia
   refine⟨_,rfl,_,rfl,r,zs,rfl,hr6',po6,by lia,fun r2 zs2 H7 s7 hr7 hr7' po7 e7=>⟨by show 2≤sizeLine;decide,fun t ht=>?_⟩⟩
   refine q.go ((((sH.trans (aI.of (s4.trans sS))).trans s5)).trans (aI.of (s6.trans s7))) ((hp5.same s6).same s7) (((sH.trans (aI.of (s4.trans sS))).trans s5).free hp5.full (s6.free hr7)) hr7' po7 ?_ ht
   rw[e7,e6];exact Fb
  refine⟨_,rfl,rfl,_,rfl,ite2 (fun c=>?_) (fun c3=>?_)⟩
  ·refine uJ (cs:=cs2) (by rw[ec2];decide) fun as H4 s4 la ea=>⟨?_,fun S hS=>?_⟩
   ·rw[List.length_map,la,ec2];show 9≤sizeLine;decide
   have sS:=aG (o:=.lst (as.map V.ref)) hS
   refine⟨_,rfl,p,9,rfl,by decide,by decide,(hp3.same s4).same sS,fun d H5 hd s5 hp5=>?_⟩
   have had:as[d]?=some (as.getD d 0):=by rw[List.getD_eq_getElem?_getD,List.getElem?_eq_getElem (by rw[la,ec2];exact hd)];rfl
   have nS:S≠p:=(hp3.same s4).ne hS
   have ga:=ea d (by rw[ec2];exact hd)
   have ga5:=s5 _ _ (sS _ _ ga) ((hp3.same s4).neT ga)
   have sd:∀d,d<9→∃f b:Nat,([[1,3],[1,5],[2,2],[2,3],[2,4],[2,5],[3,3],[4,2],[5,2]]:List (List Nat)).getD d []=[f,b]∧1≤f∧f≤5∧2≤b∧b≤5∧b ^ f≤32:=fun d hd=>
    ⟨(([[1,3],[1,5],[2,2],[2,3],[2,4],[2,5],[3,3],[4,2],[5,2]]:List (List Nat)).getD d []).getD 0 0,(([[1,3],[1,5],[2,2],[2,3],[2,4],[2,5],[3,3],[4,2],[5,2]]:List (List Nat)).getD d []).getD 1 0,by revert d;decide⟩
   obtain⟨fg,b,es,f1,f2,b1,b2,hm⟩:=sd d hd
   rw[ec2,es] at ga5
   refine⟨S,_,_,_,rfl,rfl,SqL.of (s5 _ _ aB nS),aM (by rw[List.getElem?_map,had];rfl),_,_,rfl,SqT.of ga5,rfl,_,_,rfl,_,_,rfl,rfl,?_⟩
   refine⟨_,rfl,_,rfl,fg,b,rfl,f1,f2,b1,b2,hm,fun t r zs H6 s6 ht hr6 ht6 hr6' po6 e6=>?_⟩
   refine⟨t,_,rfl,SqT.of ht6,rfl,_,_,rfl,_,_,rfl,rfl,?_⟩
   have Fb:=(yY f1 f2 b1 b2 hm).1
   have zl:zs.length≤256:=by have:=Fb.len;rw[← e6,fU,bJ] at this;lia
   refine⟨_,rfl,_,rfl,r,zs,rfl,hr6',po6,by lia,fun r2 zs2 H7 s7 hr7 hr7' po7 e7=>⟨by show 2≤sizeLine;decide,fun t ht=>?_⟩⟩
   refine q.go ((((sH.trans (aI.of (s4.trans sS))).trans s5)).trans (aI.of (s6.trans s7))) ((hp5.same s6).same s7) (((sH.trans (aI.of (s4.trans sS))).trans s5).free hp5.full (s6.free hr7)) hr7' po7 ?_ ht
   rw[e7,e6];exact Fb
  refine⟨_,rfl,rfl,_,rfl,ite2 (fun c=>?_) (fun c4=>?_)⟩
  ·refine⟨_,rfl,_,rfl,_,rfl,p,n,rfl,n1,n2,hp3,fun r zs H4 s4 hp4 hr4 hr4' po F4 _=>?_⟩
   have zl:zs.length≤256:=by have:=F4.len;rw[fU,bJ] at this;lia
   refine⟨r,zs,rfl,hr4',po,by lia,fun r2 zs2 H5 s5 hr5 hr5' po5 e5=>⟨by show 2≤sizeLine;decide,fun t ht=>?_⟩⟩
   exact q.go ((sH.trans s4).trans (aI.of s5)) (hp4.same s5) ((sH.trans s4).free hp4.full hr5) hr5' po5 (by rw[e5];exact F4) ht
  refine⟨_,rfl,_,rfl,_,rfl,p,n,rfl,n1,n2,hp3,fun r zs H4 s4 hp4 hr4 hr4' po F4=>⟨by show 2≤sizeLine;decide,fun t ht=>?_⟩⟩
  exact q.go (sH.trans s4) hp4 (sH.free hp3.full hr4) hr4' po F4 ht
end
end K12
namespace K12
open PySem L2 NetM
abbrev uK:Stmt:=top 36
theorem pB:(["_law_step","_law_house","_law_n"]:List Str).Nodup:=by decide +kernel
theorem kK:(["_law_there","_law_house","_law_known"]:List Str).Nodup:=by decide +kernel
theorem aDw{lo:Int}{n:Nat}{D:Addr}{g:TG}{tt:TT}{te:TE}{fin:Hp→Prop}{σB:St}{H0:Hp}(G:Nat→V)(shape:St→Prop)(hD:H0 D=none)(hn:n≤1000)(h0:shape σB)(hs:∀x σ H (R:V→St→Hp→Prop) (Kf:St→Hp→Prop),x<n→shape σ→Same H0 H→(∀σ2 H2,shape σ2→Same H H2→R (G x) σ2 H2)→g (.int (lo+(x:Nat))) σ H fun σ2 H2=>tt σ2 H2 fun b H3=>if b=true then te σ2 H3 fun v H4=>R v σ2 H4 else Kf σ2 H3)(hd:∀H,Same H0 H→H D=some (.lst ((List.range n).map G))→fin H):dN (Itr lo n) g tt te D fin σB (upd H0 D (.lst [])):=by
 refine eE (fun i ys σ H=>shape σ∧Same H0 H∧H D=some (.lst ys)∧ys=(List.range i).map G) ⟨h0,aG hD,aB,rfl⟩ ?_ ?_
 ·rintro i ys σ H Kt Kf hi ⟨sh,sm,hDl,rfl⟩ kt kf
  refine hs i σ H Kt Kf hi sh sm (fun σ2 H2 sh2 s2=>?_)
  refine kt _ _ _ (s2 _ _ hDl) ?_ ⟨sh2,bE (sm.trans s2) hD,aB,by rw[List.range_succ,List.map_append];rfl⟩
  rw[List.length_map,List.length_range]
  exact Nat.lt_of_lt_of_le (show i<1000 by lia) (by decide)
 ·rintro ys σ H ⟨_,sm,hDl,rfl⟩
  exact hd H sm hDl
theorem aDx{β:Type}{K:PySem.W.Frag}{a D:Addr}{g:TG}{tt:TT}{te:TE}{fin:Hp→Prop}{σB:St}{H0:Hp}(ms:List β)(e:β→V)(c:β→Bool)(shape:St→Prop)(ha:H0 a=some (.lst (ms.map e)))(hD:H0 D=none)(hn:ms.length≤1000)(h0:shape σB)(hs:∀m σ H (Kt:V→St→Hp→Prop) (Kf:St→Hp→Prop),m∈ms→shape σ→Same H0 H→(∀σ2 H2,shape σ2→Same H H2→c m=true→Kt (e m) σ2 H2)→(∀σ2 H2,shape σ2→Same H H2→c m=false→Kf σ2 H2)→
   g (e m) σ H fun σ2 H2=>tt σ2 H2 fun b H3=>if b=true then te σ2 H3 fun v H4=>Kt v σ2 H4 else Kf σ2 H3)(hd:∀H,Same H0 H→H D=some (.lst ((ms.filter c).map e))→fin H):dN (Itl K a) g tt te D fin σB (upd H0 D (.lst [])):=by
 refine cJ (xs:=ms.map e) (fun i ys σ H=>shape σ∧Same H0 H∧H D=some (.lst ys)∧ys=((ms.take i).filter c).map e) ⟨h0,aG hD,aB,rfl⟩ (fun i ys σ H _ z=>SqL.of (z.2.1 _ _ ha)) ?_ ?_
 ·rintro i x ys σ H Kt Kf hx ⟨sh,sm,hDl,rfl⟩ kt kf
  rw[List.getElem?_map] at hx
  cases hz:ms[i]? with
  |none=>rw[hz] at hx;cases hx
  |some m=>
   rw[hz] at hx
   obtain rfl:e m=x:=Option.some.inj hx
   have tk:ms.take (i+1)=ms.take i++[m]:=by rw[List.take_add_one,hz];rfl
   refine hs m σ H Kt Kf (List.mem_of_getElem? hz) sh sm (fun σ2 H2 sh2 s2 hc=>?_) (fun σ2 H2 sh2 s2 hc=>?_)
   ·refine kt _ _ _ (s2 _ _ hDl) ?_ ⟨sh2,bE (sm.trans s2) hD,aB,by rw[tk,List.filter_append];simp[List.filter_cons,hc]⟩
    rw[List.length_map]
    exact Nat.lt_of_le_of_lt (Nat.le_trans (List.length_filter_le _ _) (List.length_take_le' _ _)) (Nat.lt_of_le_of_lt hn (by decide))
   ·exact kf _ _ ⟨sh2,sm.trans s2,s2 _ _ hDl,by rw[tk,List.filter_append];simp[List.filter_cons,hc]⟩
 ·rintro ys σ H ⟨_,sm,hDl,rfl⟩
  rw[List.length_map,List.take_length] at hDl
  exact hd H sm hDl
def tk2(u:Int×Int):List Key:=[.inl u.1,.inl u.2]
theorem uL{k:List Key}:∀ {ps:List TK} {m:List (List Key×V)},(valV (cN m ps) k).isSome=true↔(valV m k).isSome=true∨k∈ps.map fun p:TK=>p.1
 |[],m=>by unfold cN;simp
 |p::ps,m=>by
  have ih:=uL (k:=k) (ps:=ps) (m:=putK m p.1 p.2.2)
  rw[show cN m (p::ps)=cN (putK m p.1 p.2.2) ps from rfl,ih,aBH]
  by_cases c:k=p.1
  ·rw[if_pos c];simp[c]
  ·rw[if_neg c,List.map_cons];simp[c]
theorem aDy{u:Int×Int}{ts:Ts}:tk2 u∈ts.map tk2↔u∈ts:=by
 constructor
 ·intro h
  obtain⟨v,hv,e⟩:=List.mem_map.mp h
  unfold tk2 at e
  injection e with e1 e2
  injection e2 with e2 _
  rw[show u=v from Prod.ext (Sum.inl.inj e1).symm (Sum.inl.inj e2).symm]
  exact hv
 ·exact fun h=>List.mem_map.mpr ⟨u,h,rfl⟩
theorem aDz{n:Nat}{ts:Ts}(F:Fine n ts){h:Nat}(hh:h<n):((List.range (n-1)).map fun s=>(h+(s+1)) % n).filter (fun o=>decide ((ci h,ci o)∈ts))=outN n ts h:=by
 unfold outN
 obtain⟨m,rfl⟩:∃m,n=m+1:=⟨n-1,by lia⟩
 have e0:(h+0) % (m+1)=h:=Nat.mod_eq_of_lt hh
 rw[List.range_succ_eq_map,List.map_cons,List.filter_cons,List.map_map,e0]
 have nt:¬ T ts h h:=fun z=>F.ne _ z rfl
 rw[if_neg (fun z=>nt (of_decide_eq_true z)),show m+1-1=m from rfl]
 exact List.filter_congr fun o _=>decide_eq_decide.mpr Iff.rfl
section
variable {P:Program} {w:World} {K:PySem.W.Frag} {mg:Str→Option Value} {base:Heap}
theorem jU:aZ ["_law_n","_law_ties","_law_known","_law_found","_law_house","_law_round_it"] ["_law_n","_law_ties"] (aN uK):=⟨rfl,rfl,rfl,by decide +kernel,rfl,by decide +kernel,by decide +kernel⟩
def qD:Sp:=fun vs H Q _=>∃ (n:Nat) (l:Addr) (zs:Zs),vs=[.int n,.ref l]∧H l=some (.lst (zr zs))∧PO H zs∧Fine n (zp zs)∧∀ (r:Addr) (H':Hp),Same H H'→H r=none→bL H' (fun a=>H a=none) r n (outN n (zp zs))→Q (.ref r) H'
theorem aCc{f:Addr}{fd:FuncData}(F:Fun K "_law_outs" "_law_outs" uK f fd)(B:Bl mg)(B2:Bl2 mg):FnOk P w K mg base CX0 1 f fd ["_law_n","_law_ties"] qD:=by
 refine F.ok jU (fun vs H Q E h=>?_) (fun cdv A outer s H vs Q E hr h=>?_)
 ·obtain⟨n,l,zs,rfl,_⟩:=h
  rfl
 ·obtain⟨n,l,zs,rfl,hl,po,Fi,q⟩:=h
  have n1:=Fi.n1
  have n2:=Fi.n2
  have zl:zs.length≤256:=by have:=Fi.len;rwa [bJ] at this
  refine'⟨_,(aE (aO (i:=2) jU.nd rfl (Or.inr rfl) (cD (zH rfl hr.u) (by rfl) B2.dict PyProof.Rows.boot_dict (aA ?c1 aD)))
   (aE (aO (i:=3) jU.nd rfl (Or.inl rfl) (bU aD))
   (aE (cA PassesOwn.never rfl (bN rfl B.range (aA (pv 0) aD)) (aL (i:=4) jU.nd rfl (Or.inr rfl))
    (aE (cM (i:=5) (g:=(bG 0)) (te:=(tOp (rI (fun _ j=>0<j) fun i j=>.int (i % j)) (tOp (rI0 fun i j=>.int (i+j)) (tVar 1) (tVar 0)) (tVar 2))) (NB:=["_law_step","_law_house","_law_n"]) (src:=[none,some 4,some 0]) (bH (by kernel_rfl)) rfl (kP rfl B.range (aA aK (aA (pv 0) aD))) ?g2 ?t2 ?e2 jU.nd rfl rfl rfl)
    (aJ (bS (cX PySem.F.plainAttrs_list PySem.F.slot_list_append PySem.F.type_list_append cP (pv 3) (aA ?c3 aD))))))
   (aJ (bA (pv 3)))))),?_⟩
  case c1=>
   refine' bV (g:=(bG 0)) (te:=(tTup (bK (tVar 0) (bK (tC (.bl true)) tNil)))) (NB:=["_law_tie"]) (src:=[none]) (bH (by kernel_rfl)) rfl (bP (pv 1)) ?g ?t ?e
   case g=>exact fun cl C s₃ H₃ fp=>(aL (i:=0) aBj rfl (Or.inl rfl) (Or.inr rfl))
   case t=>exact fun cl C s₃ H₃ fp=>bZ
   case e=>exact fun cl C s₃ H₃ fp=>(bT (aA (pv 0) (aA jX aD)))
  case g2=>exact fun cl C s₃ H₃ fp=>(aL (i:=0) pB rfl (Or.inl rfl) (Or.inr rfl))
  case t2=>exact fun cl C s₃ H₃ fp=>bZ
  case e2=>exact fun cl C s₃ H₃ fp=>(aY eJ (aY cL (pv 1) (pv 0)) (pv 2))
  case c3=>
   refine' bV (g:=(bG 0)) (tt:=(tB (tDIn (tTup (bK (tVar 1) (bK (tVar 0) tNil))) (tVar 2)))) (te:=(tVar 0)) (NB:=["_law_there","_law_house","_law_known"]) (src:=[none,some 4,some 2]) (bH (by kernel_rfl)) rfl (bP (pv 5)) ?g ?t ?e
   case g=>exact fun cl C s₃ H₃ fp=>(aL (i:=0) kK rfl (Or.inl rfl) (Or.inr rfl))
   case t=>exact fun cl C s₃ H₃ fp=>dG (aDM (aD0 hr.u (bT (aA (pv 1) (aA (pv 0) aD))) (pv 2)))
   case e=>exact fun cl C s₃ H₃ fp=>(pv 0)
  refine⟨_,rfl,l,rfl,⟨_,SqL.of hl⟩,fun D1 hD1=>?_⟩
  refine cJ (xs:=zr zs) (fun i ys σ H2=>(∃x,σ=[x])∧Same H H2∧H2 D1=some (.lst ys)∧∃as:List Addr,ys=as.map V.ref∧as.length=i∧∀j,j<i→∃z,zs[j]?=some z∧H2 (as.getD j 0)=some (.tup [.ref z.1,.bl true])) ⟨⟨_,rfl⟩,aG hD1,aB,[],rfl,rfl,fun j hj=>absurd hj (Nat.not_lt_zero _)⟩ (fun i ys σ H2 _ z=>SqL.of (z.2.1 _ _ hl)) ?_ ?_
  ·rintro i x ys σ H2 Kt Kf hx ⟨⟨x',rfl⟩,sm,hDl,as,rfl,al,ah⟩ kt kf
   obtain⟨z,hz,rfl⟩:=jQ hx
   have hi:i<zs.length:=(List.getElem?_eq_some_iff.mp hz).1
   refine⟨_,rfl,by show 2≤sizeLine;decide,fun t ht=>?_⟩
   have st:=aG (o:=.tup [.ref z.1,.bl true]) ht
   have nD:D1≠t:=aH hDl ht
   refine kt _ _ _ (st _ _ hDl) (by rw[List.length_map,al];exact Nat.lt_of_lt_of_le (show i<1000 by lia) (by decide)) ⟨⟨_,rfl⟩,bE (sm.trans st) hD1,aB,as++[t],by rw[List.map_append];rfl,by rw[List.length_append,al];rfl,fun j hj=>?_⟩
   by_cases c:j<i
   ·obtain⟨z',e1,e2⟩:=ah j c
    refine⟨z',e1,?_⟩
    have e3:=st _ _ e2
    rw[List.getD_eq_getElem?_getD,List.getElem?_append_left (by lia),← List.getD_eq_getElem?_getD,aF (by rintro e;rw[e,st _ _ hDl] at e3;cases e3)]
    exact e3
   ·obtain rfl:j=i:=by lia
    refine⟨z,hz,?_⟩
    rw[List.getD_eq_getElem?_getD,List.getElem?_append_right (by lia),al,Nat.sub_self]
    show (upd _ D1 _) t=_
    rw[aF nD.symm]
    exact aB
  rintro ys σ H2 ⟨_,s2,hD2,as,rfl,al,ah⟩
  rw[cF] at al ah
  refine⟨D1,as,zs.map fun z=>(tk2 z.2,z.1,V.bl true),rfl,hD2,by rw[List.length_map];exact al,fun i hi=>?_,by rw[List.length_map];lia,fun Kn hK=>?_⟩
  ·rw[List.length_map] at hi
   obtain⟨z,e1,e2⟩:=ah i hi
   exact⟨tk2 z.2,z.1,.bl true,by rw[List.getElem?_map,e1];rfl,e2,s2 _ _ (po z (List.mem_of_getElem? e1))⟩
  have known:∀u:Int×Int,(valV (cN [] (zs.map fun z=>(tk2 z.2,z.1,V.bl true))) (tk2 u)).isSome=decide (u∈zp zs):=fun u=>by
   rw[Bool.eq_iff_iff,uL,List.map_map,decide_eq_true_eq]
   have e:((fun p:TK=>p.1) ∘ fun z:Addr×Int×Int=>(tk2 z.2,z.1,V.bl true))=tk2 ∘ fun z:Addr×Int×Int=>z.2:=rfl
   rw[e,← List.map_map]
   have:=aDy (u:=u) (ts:=zp zs)
   unfold zp at this ⊢
   rw[this]
   simp[valV]
  have sK:=aG (o:=.dT (cN [] (zs.map fun z=>(tk2 z.2,z.1,V.bl true)))) hK
  have hKK:(upd H2 Kn (.dT (cN [] (zs.map fun z=>(tk2 z.2,z.1,V.bl true))))) Kn=some (.dT (cN [] (zs.map fun z=>(tk2 z.2,z.1,V.bl true)))):=aB
  generalize cN [] _=kd at *
  refine⟨by show 0≤sizeLine;decide,fun R hR=>?_⟩
  have s3:Same H _:=s2.trans sK
  have hK3:=aG (o:=.lst []) hR _ _ hKK
  have hRH:=s3.free hR
  have s4:=s3.trans (aG (o:=.lst []) hR)
  refine⟨_,rfl,(n:Int),rfl,by lia,by lia,cI (n:=n) (lo:=0) (fun i σ Hc=>(∃a b,σ=[some (.int n),some (.ref l),some (.ref Kn),some (.ref R),a,b])∧Same H Hc∧Hc Kn=some (.dT kd)∧∃bs:List Addr,Hc R=some (.lst (bs.map V.ref))∧(∀b∈bs,H b=none∧b≠R)∧Holds Hc bs i fun h=>.lst (NV (outN n (zp zs) h))) ⟨⟨_,_,rfl⟩,s4,hK3,[],aB,fun b hb=>(nomatch hb),Holds.nil⟩ ?_ ?_⟩
  ·rintro i σ Hc hi ⟨⟨x4,x5,rfl⟩,sc,hKc,bs,hRc,fr,hb⟩
   have nKR:Kn≠R:=by rintro rfl;rw[hKc] at hRc;cases hRc
   rw[Int.zero_add]
   refine⟨_,rfl,1,(n:Int),rfl,⟨by decide,by decide,by lia,by lia⟩,fun D2 hD2=>?_⟩
   rw[show ((n:Int)-1).toNat=n-1 by lia]
   refine aDw (lo:=1) (n:=n-1) (fun s=>V.int (((i+(s+1)) % n:Nat):Int)) (fun σ=>∃x,σ=[x,some (.int (i:Nat)),some (.int n)]) hD2 (by lia) ⟨_,rfl⟩ ?_ ?_
   ·rintro x σ H4 R' Kf hx ⟨x',rfl⟩ sm4 kt
    have e:((i:Int)+(1+(x:Int))) % (n:Int)=(((i+(x+1)) % n:Nat):Int):=by lia
    refine⟨_,rfl,_,rfl,_,_,rfl,rfl,_,rfl,_,_,rfl,rfl,(by show (0:Int)<(n:Int);lia),?_⟩
    have:=kt [some (.int (1+(x:Int))),some (.int (i:Nat)),some (.int n)] H4 ⟨_,rfl⟩ (Same.refl _)
    rw[← e] at this
    exact this
   intro H4 s4 hD4
   have hD4':H4 D2=some (.lst (((List.range (n-1)).map fun s=>(i+(s+1)) % n).map fun (x:Nat)=>V.int (x:Int))):=by rw[hD4,List.map_map];rfl
   have hR4:=s4 _ _ hRc
   refine⟨_,rfl,.inl ⟨rfl,_,SqL.of hR4⟩,_,rfl,D2,rfl,⟨_,SqL.of hD4'⟩,fun D3 hD3=>?_⟩
   refine aDx ((List.range (n-1)).map fun s=>(i+(s+1)) % n) (fun (x:Nat)=>V.int (x:Int)) (fun o=>decide ((ci i,ci o)∈zp zs)) (fun σ=>∃x,σ=[x,some (.int (i:Nat)),some (.ref Kn)]) hD4' hD3 (by rw[List.length_map,List.length_range];lia) ⟨_,rfl⟩ ?_ ?_
   ·rintro m σ H5 Kt Kf hm ⟨x',rfl⟩ sm5 kt kf
    refine⟨_,rfl,_,rfl,by show 2≤sizeLine;decide,fun t ht=>?_⟩
    have st:=aG (o:=.tup [.int (i:Int),.int (m:Int)]) ht
    have hK5:=st _ _ (sm5 _ _ (s4 _ _ hKc))
    refine⟨_,rfl,Kn,_,rfl,DGet.t (k:=tk2 (ci i,ci m)) hK5 aB,_,rfl,?_⟩
    rw[known]
    refine ite2 (fun c=>?_) (fun c=>?_)
    ·exact⟨_,rfl,kt _ _ ⟨_,rfl⟩ st c⟩
    ·exact kf _ _ ⟨_,rfl⟩ st (by simpa using c)
   intro H5 s5 hD5
   rw[aDz Fi hi] at hD5
   have hR5:=s5 _ _ hR4
   have bl:bs.length=i:=hb.1
   have nDR:D3≠R:=by rintro rfl;rw[hR4] at hD3;cases hD3
   refine⟨R,_,_,rfl,rfl,hR5,by rw[List.length_map,bl];exact Nat.lt_of_lt_of_le (show i<33 by lia) (by decide),⟨_,_,rfl⟩,bE ((sc.trans s4).trans s5) hRH,?_,bs++[D3],by rw[aB,List.map_append];rfl,fun b hb'=>?_,?_⟩
   ·rw[aF nKR];exact s5 _ _ (s4 _ _ hKc)
   ·rcases List.mem_append.mp hb' with z|z
    ·exact fr b z
    ·rw[List.mem_singleton.mp z];exact⟨(sc.trans s4).free hD3,nDR⟩
   ·refine Holds.snoc (hb.mono fun j hj e=>?_) (by rw[aF nDR];exact hD5)
    have e5:=s5 _ _ (s4 _ _ e)
    have hm:bs.getD j 0∈bs:=by rw[List.getD_eq_getElem?_getD,List.getElem?_eq_getElem (by lia)];exact List.getElem_mem _
    rw[aF (fr _ hm).2];exact e5
  ·rintro σ Hc ⟨⟨x4,x5,rfl⟩,sc,hKc,bs,hRc,fr,hb⟩
   exact⟨_,rfl,q R Hc sc hRH ⟨bs,hRc,fun b hb'=>(fr b hb').1,hb⟩⟩
end
end K12
namespace K12
open PySem L2 NetM
abbrev uM:Stmt:=top 37
theorem gR:(["_law_house","_law_home","_law_many","_law_outs_here"]:List Str).Nodup:=by decide +kernel
def oV:Option Nat→V
 |none=>.non
 |some k=>.int (k:Int)
theorem aI.put{p a:Addr}{H H':Hp}{o:HO}(s:aI p H H')(e:H a=none):aI p H (upd H' a o):=fun b o' h n=>by
 rw[aF (aH h e)];exact s _ _ h n
section
variable {P:Program} {w:World} {K:PySem.W.Frag} {mg:Str→Option Value} {base:Heap}
theorem eR:aZ ["_law_pot_here","_law_n","_law_outs_here","_law_many","_law_homes","_law_stand_here","_law_crowd","_law_k","_law_home","_law_some","_law_house"] ["_law_pot_here","_law_n","_law_outs_here"] (aN uM):=⟨rfl,rfl,rfl,by decide +kernel,rfl,by decide +kernel,by decide +kernel⟩
structure Stnd(n:Nat)(ts:Ts)(homes:List Nat)(st:List (Option Nat)):Prop where
 len:homes.length=st.length
 le:st.length≤16
 hs:∀x∈homes,x<n
 ss:∀y,some y∈st→y<n
 cap:∀y,y<n→st.count (some y)≤(outN n ts y).length
def qE:Sp:=fun vs H Q _=>∃ (p:Addr) (n:Nat) (r:Addr) (ts:Ts) (L:Addr→Prop),vs=[.ref p,.int n,.ref r]∧2≤n∧n≤32∧bB H p∧bL H L r n (outN n ts)∧L r∧¬ L p∧
 ∀ (t a b:Addr) (homes:List Nat) (st:List (Option Nat)) (H':Hp),aI p H H'→bB H' p→H' t=some (.tup [.ref a,.ref b])→H' a=some (.tup (NV homes))→H' b=some (.tup (st.map oV))→Stnd n ts homes st→Q (.ref t) H'
theorem aCd{f:Addr}{fd:FuncData}(F:Fun K "_law_stand" "_law_stand" uM f fd)(B:Bl mg)(D:Cal P w K mg base CX0 1 "_law_take" ["_law_pot_here","_law_many"] dZ):FnOk P w K mg base CX0 2 f fd ["_law_pot_here","_law_n","_law_outs_here"] qE:=by
 refine F.ok eR (fun vs H Q E h=>?_) (fun cdv A outer s H vs Q E hr h=>?_)
 ·obtain⟨p,n,r,ts,L,rfl,_⟩:=h
  rfl
 ·obtain⟨p,n,r,ts,L,rfl,n1,n2,hp,R0,hLr,hLp,q⟩:=h
  refine'⟨_,(aE (aO (i:=3) eR.nd rfl (Or.inr rfl) (aY kT (bU (aA aK aD)) (pv 1)))
   (aE (rZ (i:=4) (j:=5) rfl eR.nd rfl rfl (by decide) rfl rfl (aA (bU aD) (aA (bU aD) aD)) (by rfl))
   (aE (aO (i:=6) eR.nd rfl (Or.inl rfl) (aQ D hr aT (aA (pv 0) (aA aK aD))))
   (aE (cA PassesOwn.never rfl (bN rfl B.range (aA (aQ D hr aT (aA (pv 0) (aA aK aD))) aD)) (aL (i:=7) eR.nd rfl (Or.inl rfl))
    (aE (aO (i:=8) eR.nd rfl (Or.inr rfl) (aQ D hr aT (aA (pv 0) (aA (pv 1) aD))))
    (aE (cM (i:=9) (g:=(bG 0)) (tt:=(tAnd (fL (tOp (rNe) (tVar 0) (tVar 1))) (fL (tOp (rI0 fun i j=>.bl (decide (i<j))) (tOp (rIxL K) (tVar 2) (tVar 0)) (tCB (fun xs H Q=>∃p ys,xs=[V.ref p]∧(SqL K H p ys∨SqT K H p ys)∧Q (.int ys.length) H) (bK (tOp (rIxL K) (tVar 3) (tVar 0)) tNil)))))) (te:=(tVar 0)) (NB:=["_law_house","_law_home","_law_many","_law_outs_here"]) (src:=[none,some 8,some 3,some 2]) (bH (by kernel_rfl)) rfl (bN rfl B.range (aA (pv 1) aD)) ?g1 ?t1 ?e1 eR.nd rfl rfl rfl)
    (aE (bR (aV dM (pv 6) aK (aX _)) (aJ (aO (i:=9) eR.nd rfl (Or.inl rfl) (sI wD (pv 9) wA (wB aK)))) bD)
    (aE (aO (i:=10) eR.nd rfl (Or.inl rfl) dQ)
    (aE (bR (PW.pt (iI (aV (sZ (e:=eqV) hr.u) (pv 9) (bU aD) (aX _)) (iA (aV nY (aQ D hr aT (aA (pv 0) (aA aK aD))) aK (aX _))))) (aE (aO (i:=10) eR.nd rfl (Or.inl rfl) (aR aP (pv 9) (aQ D hr aT (aA (pv 0) (aA (aS aW (by rfl) B.len PySem.boot_len (aA (pv 9) aD)) aD))) (fun _ _=>rfl)))
     (aJ (cK (aY cL (aR aP (pv 3) (pv 10) (fun _ _=>rfl)) aK) (eI (pv 3) (pv 10) dA)))) bD)
    (aE (bS (cX PySem.F.plainAttrs_list PySem.F.slot_list_append PySem.F.type_list_append cP (pv 4) (aA (pv 8) aD)))
    (aJ (bS (cX PySem.F.plainAttrs_list PySem.F.slot_list_append PySem.F.type_list_append cP (pv 5) (aA (pv 10) aD)))))))))))
   (aJ (bA (bT (aA (cD dO (by rfl) B.tup PyProof.Rows.boot_tuple (aA (pv 4) aD)) (aA (cD dO (by rfl) B.tup PyProof.Rows.boot_tuple (aA (pv 5) aD)) aD))))))))),?_⟩
  case g1=>exact fun cl C s₃ H₃ fp=>(aL (i:=0) gR rfl (Or.inl rfl) (Or.inr rfl))
  case t1=>exact fun cl C s₃ H₃ fp=>dG (PW.pt (iI (aV nX (pv 0) (pv 1) (aX _)) (iA (aV hJ (aR aP (pv 2) (pv 0) (fun _ _=>rfl)) (aS aW (by rfl) B.len PySem.boot_len (aA (aR aP (pv 3) (pv 0) (fun _ _=>rfl)) aD)) (aX _)))))
  case e1=>exact fun cl C s₃ H₃ fp=>(pv 0)
  refine⟨by show 1≤sizeLine;decide,fun L1 hL1=>⟨_,rfl,L1,_,_,rfl,rfl,aB,by lia,by lia,by rw[Int.toNat_natCast,List.length_singleton];exact Nat.le_trans (show 1*n≤32 by lia) (by decide),fun M hM=>?_⟩⟩
  rw[Int.toNat_natCast,gO]
  have eM:List.replicate n (V.int 0)=NV (List.replicate n 0):=by unfold NV;rw[List.map_replicate];rfl
  rw[eM]
  refine⟨by show 0≤sizeLine;decide,fun Hs hHs=>⟨by show 0≤sizeLine;decide,fun St hSt=>⟨_,_,rfl,?_⟩⟩⟩
  have s1:=aG (o:=.lst [.int 0]) hL1
  have s2:=s1.trans (aG (o:=.lst (NV (List.replicate n 0))) hM)
  have s3:=s2.trans (aG (o:=.lst []) hHs)
  have s4:=s3.trans (aG (o:=.lst []) hSt)
  have fM:=s1.free hM
  have fH:=s2.free hHs
  have fS:=s3.free hSt
  have gM:=aG (o:=.lst []) hSt _ _ (aG (o:=.lst []) hHs _ _ (aB (H:=upd H L1 (.lst [.int 0])) (a:=M) (o:=.lst (NV (List.replicate n 0)))))
  have gH:=aG (o:=.lst []) hSt _ _ (aB (H:=upd (upd H L1 (.lst [.int 0])) M (.lst (NV (List.replicate n 0)))) (a:=Hs) (o:=.lst []))
  have gS:=aB (H:=upd (upd (upd H L1 (.lst [.int 0])) M (.lst (NV (List.replicate n 0)))) Hs (.lst [])) (a:=St) (o:=.lst [])
  have nMH:M≠Hs:=aH aB hHs
  have nMS:M≠St:=aH (aG hHs _ _ aB) hSt
  have nHS:Hs≠St:=aH aB hSt
  have nMp:=hp.ne fM
  have nHp:=hp.ne fH
  have nSp:=hp.ne fS
  generalize upd (upd (upd (upd H L1 _) M _) Hs _) St _=H1 at *
  have hp1:=hp.same s4
  refine⟨_,rfl,p,2,rfl,by decide,by decide,hp1,fun cr H2 hcr s5 hp2=>⟨_,rfl,p,17,rfl,by decide,by decide,hp2,fun d H3 hd s6 hp3=>⟨(d:Int),rfl,by lia,by lia,?_⟩⟩⟩
  refine cI (n:=d) (lo:=0) (fun i σ Hc=>∃ (ms homes:List Nat) (st:List (Option Nat)),(∃a b c e,σ=[some (.ref p),some (.int n),some (.ref r),some (.ref M),some (.ref Hs),some (.ref St),some (.int (cr:Int)),a,b,c,e])∧aI p H Hc∧bB Hc p∧Hc M=some (.lst (NV ms))∧ms.length=n∧Hc Hs=some (.lst (NV homes))∧Hc St=some (.lst (st.map oV))∧homes.length=i∧st.length=i∧(∀x∈homes,x<n)∧(∀y,some y∈st→y<n)∧∀y,y<n→st.count (some y)=ms.getD y 0∧ms.getD y 0≤(outN n ts y).length)
   ⟨List.replicate n 0,[],[],⟨_,_,_,_,rfl⟩,((aI.of s4).trans s5).trans s6,hp3,s6 _ _ (s5 _ _ gM nMp) nMp,List.length_replicate,s6 _ _ (s5 _ _ gH nHp) nHp,s6 _ _ (s5 _ _ gS nSp) nSp,rfl,rfl,fun x hx=>(nomatch hx),fun y hy=>(nomatch hy),fun y hy=>by rw[List.getD_eq_getElem?_getD,List.getElem?_replicate,if_pos hy];exact⟨rfl,Nat.zero_le _⟩⟩ ?_ ?_
  ·rintro i σ Hc hi ⟨ms,homes,st,⟨x7,x8,x9,x10,rfl⟩,sc,hpc,hMc,ml,hHc,hSc,hl1,hl2,hb1,hb2,hcp⟩
   refine⟨_,rfl,_,rfl,p,n,rfl,by lia,by lia,hpc,fun home H4 hhome s7 hp4=>?_⟩
   have sH4:=sc.trans s7
   have hM4:=s7 _ _ hMc nMp
   have R4:bL H4 L r n (outN n ts):=R0.keep hLr fun b o l e=>sH4 b o e fun z=>hLp (z ▸ l)
   obtain⟨bs,b1,b2,b3⟩:=R4
   refine⟨_,rfl,(n:Int),rfl,by lia,by lia,fun D1 hD1=>?_⟩
   refine pX (lo:=0) (n:=n) (fun x=>decide (x≠home)&&decide (ms.getD x 0<(outN n ts x).length)) (fun σ=>∃a,σ=[a,some (.int (home:Int)),some (.ref M),some (.ref r)]) hD1 (by lia) ⟨_,rfl⟩ ?_ ?_
   ·rintro x σ H5 Kt Kf hx ⟨a',rfl⟩ sm5 kt kf
    rw[Int.zero_add] at kt ⊢
    refine⟨_,rfl,_,rfl,rfl,_,rfl,?_⟩
    refine ite2 (fun c=>?_) (fun c=>?_)
    ·have c:x≠home:=by have:=c;simp at this;lia
     have gb:(bs.map V.ref)[x]?=some (.ref (bs.getD x 0)):=by
      rw[List.getElem?_map,List.getD_eq_getElem?_getD,List.getElem?_eq_getElem (by rw[b3.1];exact hx)];rfl
     refine⟨_,rfl,_,rfl,M,_,_,_,rfl,rfl,SqL.of (sm5 _ _ hM4),aM (cZ (by lia)),_,rfl,_,rfl,r,_,_,_,rfl,rfl,SqL.of (sm5 _ _ b1),aM gb,_,_,rfl,.inl (SqL.of (sm5 _ _ (b3.2 x hx))),_,_,rfl,rfl,_,rfl,?_⟩
     rw[aU]
     refine ite2 (fun c2=>?_) (fun c2=>?_)
     ·have c2:=of_decide_eq_true c2
      exact⟨_,rfl,kt _ _ ⟨_,rfl⟩ (Same.refl _) (by rw[decide_eq_true c,decide_eq_true (show ms.getD x 0<(outN n ts x).length by lia)];rfl)⟩
     ·exact kf _ _ ⟨_,rfl⟩ (Same.refl _) (by rw[decide_eq_false (show ¬ ms.getD x 0<(outN n ts x).length from fun z=>c2 (decide_eq_true (by lia))),Bool.and_false])
    ·have c:x=home:=by have:=c;simp at this;lia
     refine iteF (kf _ _ ⟨_,rfl⟩ (Same.refl _) (by simp[c]))
   intro H5 s8 hD5
   have e0:∀c:Nat→Bool,(((List.range n).filter c).map fun (x:Nat)=>V.int (0+(x:Int)))=NV ((List.range n).filter c):=fun c=>List.map_congr_left fun x _=>by rw[Int.zero_add]
   rw[e0] at hD5
   have hfs:∀x∈(List.range n).filter (fun x=>decide (x≠home)&&decide (ms.getD x 0<(outN n ts x).length)),x<n∧ms.getD x 0<(outN n ts x).length:=fun x hx=>⟨List.mem_range.mp (List.mem_filter.mp hx).1,of_decide_eq_true (Bool.and_eq_true_iff.mp (List.mem_filter.mp hx).2).2⟩
   have hfl:((List.range n).filter (fun x=>decide (x≠home)&&decide (ms.getD x 0<(outN n ts x).length))).length≤32:=Nat.le_trans (List.length_filter_le _ _) (by rw[List.length_range];exact n2)
   generalize (List.range n).filter _=fs at *
   have sH5:=sH4.trans (aI.of s8)
   have hp5:=hp4.same s8
   have hM5:=s8 _ _ hM4
   have hH5:=s8 _ _ (s7 _ _ hHc nHp)
   have hS5:=s8 _ _ (s7 _ _ hSc nSp)
   have fD1:=sH4.free hp4.full hD1
   clear s7 s8 hMc hHc hSc hM4 b1 b2 b3 hpc sc
   dsimp only
   refine gX (fun σ H6=>∃ (S:Addr) (fs:List Nat),(∃a,σ=[some (.ref p),some (.int n),some (.ref r),some (.ref M),some (.ref Hs),some (.ref St),some (.int (cr:Int)),a,some (.int (home:Int)),some (.ref S),x10])∧Same H5 H6∧H6 S=some (.lst (NV fs))∧S≠p∧(∀x∈fs,x<n∧ms.getD x 0<(outN n ts x).length)∧fs.length≤32) ?_ ?_
   ·rintro σ H6 ⟨S,fs,⟨x7,rfl⟩,s9,hS6,nS,hfs,hfl⟩
    have sH6:=sH5.trans (aI.of s9)
    have hp6:=hp5.same s9
    have hM6:=s9 _ _ hM5
    have hH6:=s9 _ _ hH5
    have hS6':=s9 _ _ hS5
    refine gX (fun σ H7=>H7=H6∧σ=[some (.ref p),some (.int n),some (.ref r),some (.ref M),some (.ref Hs),some (.ref St),some (.int (cr:Int)),x7,some (.int (home:Int)),some (.ref S),some .non]) ?_ (fun N hN=>hN _ _ ⟨rfl,rfl⟩)
    rintro σ H7 ⟨rfl,rfl⟩
    refine gX (fun σ H7=>∃ (o:Option Nat) (ms':List Nat),(∃a,σ=[some (.ref p),some (.int n),some (.ref r),some (.ref M),some (.ref Hs),some (.ref St),some (.int (cr:Int)),a,some (.int (home:Int)),some (.ref S),some (oV o)])∧aI p H H7∧bB H7 p∧H7 M=some (.lst (NV ms'))∧ms'.length=n∧H7 Hs=some (.lst (NV homes))∧H7 St=some (.lst (st.map oV))∧(∀y,o=some y→y<n)∧∀y,y<n→(st++[o]).count (some y)=ms'.getD y 0∧ms'.getD y 0≤(outN n ts y).length) ?_ ?_
    ·rintro σ H7 ⟨o,ms',⟨x7',rfl⟩,sH7,hp7,hM7,ml',hH7,hS7,ho,hcp'⟩
     refine⟨_,rfl,.inl ⟨rfl,_,SqL.of hH7⟩,_,rfl,Hs,_,_,rfl,rfl,hH7,by rw[aU];exact Nat.lt_of_lt_of_le (show homes.length<33 by lia) (by decide),?_⟩
     have hS8:(upd H7 Hs (.lst (NV homes++[.int (home:Int)]))) St=some (.lst (st.map oV)):=by rw[aF nHS.symm];exact hS7
     refine⟨_,rfl,.inl ⟨rfl,_,SqL.of hS8⟩,_,rfl,St,_,_,rfl,rfl,hS8,by rw[List.length_map];exact Nat.lt_of_lt_of_le (show st.length<33 by lia) (by decide),?_⟩
     refine⟨ms',homes++[home],st++[o],⟨_,_,_,_,rfl⟩,aI.put (aI.put sH7 fH) fS,(hp7.put nHp.symm).put nSp.symm,by rw[aF nMS,aF nMH];exact hM7,ml',by rw[aF nHS,aB,gN],by rw[aB,List.map_append];rfl,by rw[List.length_append,hl1];rfl,by rw[List.length_append,hl2];rfl,fun x hx=>?_,fun y hy=>?_,hcp'⟩
     ·rcases List.mem_append.mp hx with z|z
      ·exact hb1 x z
      ·rw[List.mem_singleton.mp z];exact hhome
     ·rcases List.mem_append.mp hy with z|z
      ·exact hb2 y z
      ·exact ho y (List.mem_singleton.mp z).symm
    ·intro N hN
     refine⟨_,rfl,by show 0≤sizeLine;decide,fun E1 hE1=>?_⟩
     have sE:=aG (o:=.lst []) hE1
     refine⟨S,E1,_,[],rfl,rfl,SqL.of (sE _ _ hS6),SqL.of aB,fun i h1 h2=>absurd h2 (by simp),_,rfl,?_⟩
     rw[if_pos rfl,lP]
     have sH7:=sH6.trans (aI.of sE)
     have hp7:=hp6.same sE
     have hM7:=sE _ _ hM6
     have hH7:=sE _ _ hH6
     have hS7:=sE _ _ hS6'
     have hL7:=sE _ _ hS6
     have hc0:∀y,y<n→(st++[none]).count (some y)=ms.getD y 0∧ms.getD y 0≤(outN n ts y).length:=fun y hy=>by rw[List.count_append,List.count_singleton,if_neg (by simp),Nat.add_zero];exact hcp y hy
     by_cases e:NV fs=[]
     ·rw[decide_eq_true e]
      exact iteF (iteF (hN _ _ ⟨none,ms,⟨_,rfl⟩,sH7,hp7,hM7,ml,hH7,hS7,fun y hy=>(nomatch hy),hc0⟩))
     ·rw[decide_eq_false e]
      have hl:0<fs.length:=by
       rcases fs with _|⟨x,xs⟩
       ·exact absurd rfl e
       ·simp
      refine iteT ⟨_,rfl,p,6,rfl,by decide,by decide,hp7,fun d6 H8 hd6 s8 hp8=>⟨_,_,rfl,rfl,_,rfl,ite2 (fun c=>?_) (fun c=>?_)⟩⟩
      ·refine⟨_,rfl,_,rfl,_,rfl,S,_,rfl,.inl (SqL.of (s8 _ _ hL7 nS)),p,_,rfl,by rw[aU];exact hl,by rw[aU];lia,hp8,fun d7 H9 hd7 s9' hp9=>?_⟩
       rw[aU] at hd7
       have hv:fs[d7]?=some fs[d7]:=List.getElem?_eq_getElem hd7
       have hsm:fs.getD d7 0∈fs:=by rw[List.getD_eq_getElem?_getD,hv];exact List.getElem_mem _
       refine⟨S,_,_,_,rfl,rfl,SqL.of (s9' _ _ (s8 _ _ hL7 nS) nS),aM (cZ hd7),?_⟩
       obtain⟨hyn,hyc⟩:=hfs _ hsm
       generalize fs.getD d7 0=y at *
       have sH9:=(sH7.trans s8).trans s9'
       have hM9:=s9' _ _ (s8 _ _ hM7 nMp) nMp
       have hym:y<ms.length:=by lia
       refine⟨_,rfl,_,rfl,M,_,_,_,rfl,rfl,SqL.of hM9,aM (cZ hym),_,_,rfl,rfl,_,rfl,_,rfl,M,_,(y:Int),y,rfl,rfl,hM9,cT (by rw[aU];exact hym),?_⟩
       refine hN _ _ ⟨some y,ms.set y (ms.getD y 0+1),⟨_,rfl⟩,aI.put sH9 fM,hp9.put nMp.symm,?_,by rw[List.length_set];exact ml,?_,?_,(fun z hz=>by cases hz;exact hyn),fun z hz=>?_⟩
       ·rw[aB]
        exact congrArg (fun l=>some (HO.lst l)) (jR (x:=ms.getD y 0+1))
       ·rw[aF nMH.symm];exact s9' _ _ (s8 _ _ hH7 nHp) nHp
       ·rw[aF nMS.symm];exact s9' _ _ (s8 _ _ hS7 nSp) nSp
       ·rw[List.count_append,List.count_singleton,List.getD_eq_getElem?_getD,List.getElem?_set]
        obtain⟨g1,g2⟩:=hcp z hz
        by_cases c:y=z
        ·subst c
         rw[if_pos (by simp),if_pos rfl,if_pos hym]
         exact⟨congrArg (·+1) g1,hyc⟩
        ·rw[if_neg (by simp[c]),if_neg c,← List.getD_eq_getElem?_getD]
         exact⟨g1,g2⟩
      ·exact hN _ _ ⟨none,ms,⟨_,rfl⟩,sH7.trans s8,hp8,s8 _ _ hM7 nMp,ml,s8 _ _ hH7 nHp,s8 _ _ hS7 nSp,fun y hy=>(nomatch hy),hc0⟩
   ·intro N hN
    refine⟨_,rfl,rfl,_,rfl,ite2 (fun c=>?_) (fun c=>hN _ _ ⟨D1,fs,⟨_,rfl⟩,Same.refl _,hD5,hp.ne fD1,hfs,hfl⟩)⟩
    refine⟨_,rfl,_,rfl,D1,_,rfl,SqL.of hD5,fun S hS=>?_⟩
    have e3:cutV (NV fs) none (some 3)=NV (fs.take 3):=by rw[show (3:Int)=((3:Nat):Int) from rfl,aBk];unfold NV;rw[List.map_take]
    refine hN _ _ ⟨S,fs.take 3,⟨_,rfl⟩,aG hS,by rw[aB,e3],hp5.ne hS,fun x hx=>hfs x (List.mem_of_mem_take hx),Nat.le_trans (List.length_take_le' _ _) hfl⟩
  ·rintro σ Hc ⟨ms,homes,st,⟨x7,x8,x9,x10,rfl⟩,sc,hpc,hMc,ml,hHc,hSc,hl1,hl2,hb1,hb2,hcp⟩
   refine⟨_,rfl,Hs,_,rfl,.inl ⟨SqL.of hHc,fun a ha=>?_⟩⟩
   have sa:=aG (o:=.tup (NV homes)) ha
   refine⟨_,rfl,St,_,rfl,.inl ⟨SqL.of (sa _ _ hSc),fun b hb=>⟨by show 2≤sizeLine;decide,fun t ht=>?_⟩⟩⟩
   have sb:=aG (o:=.tup (st.map oV)) hb
   have st':=aG (o:=.tup [.ref a,.ref b]) ht
   exact q t a b homes st _ (((sc.trans (aI.of sa)).trans (aI.of sb)).trans (aI.of st')) (((hpc.same sa).same sb).same st') aB (st' _ _ (sb _ _ aB)) (st' _ _ aB) ⟨by lia,by lia,hb1,hb2,fun y hy=>by rw[(hcp y hy).1];exact(hcp y hy).2⟩
end
end K12
namespace K12
open PySem L2 NetM
theorem xK{xs:List Nat}:(NV xs).all dC=true:=List.all_eq_true.mpr fun x hx=>by obtain⟨y,_,rfl⟩:=List.mem_map.mp hx;rfl
theorem eT{st:List (Option Nat)}{i:Nat}(h:i<st.length):(st.map oV)[i]?=some (oV (st.getD i none)):=by
 rw[List.getElem?_map,List.getD_eq_getElem?_getD,List.getElem?_eq_getElem h];rfl
theorem bL.same{H H':Hp}{L:Addr→Prop}{l:Addr}{n:Nat}{r:Nat→List Nat}(R:bL H L l n r)(s:Same H H'):bL H' L l n r:=
 let ⟨bs,a,b,c⟩:=R
 ⟨bs,s _ _ a,b,c.mono fun j _ e=>s _ _ e⟩
theorem fO{bs:List Addr}{h:Nat}(hh:h<bs.length):(bs.map V.ref)[h]?=some (.ref (bs.getD h 0)):=by
 rw[List.getElem?_map,List.getD_eq_getElem?_getD,List.getElem?_eq_getElem hh];rfl
abbrev uN:Stmt:=top 38
theorem uO:(["_law_row"]:List Str).Nodup:=by decide +kernel
theorem fG{cs:List Addr}{j:Nat}(h:j<cs.length):cs.getD j 0∈cs:=by rw[List.getD_eq_getElem?_getD,List.getElem?_eq_getElem h];exact List.getElem_mem _
theorem rW{cs:List Addr}{i j:Nat}(nd:cs.Nodup)(hi:i<cs.length)(hj:j<cs.length)(ne:i≠j):cs.getD i 0≠cs.getD j 0:=by
 rw[List.getD_eq_getElem?_getD,List.getElem?_eq_getElem hi,List.getD_eq_getElem?_getD,List.getElem?_eq_getElem hj]
 exact fun e=>ne ((List.getElem_inj nd).mp e)
theorem mO{n:Nat}{ts:Ts}{h:Nat}:(outN n ts h).length≤n:=by
 unfold outN
 exact Nat.le_trans (List.length_filter_le _ _) (by rw[List.length_map,List.length_range];exact Nat.le_refl _)
theorem aBm{n:Nat}{ts:Ts}{h x:Nat}(n1:0<n)(hx:x∈outN n ts h):x<n:=by
 obtain⟨s,_,rfl⟩:=List.mem_map.mp (List.mem_filter.mp hx).1
 exact Nat.mod_lt _ n1
end K12
namespace K12
open PySem L2 NetM
theorem aBn{α:Type}[DecidableEq α]:∀ {a b:List α},a.Nodup→(∀x∈a,x∈b)→a.length≤b.length
 |[],b,_,_=>Nat.zero_le _
 |x::xs,b,hn,hs=>by
  obtain⟨h1,h2⟩:=List.nodup_cons.mp hn
  have hx:x∈b:=hs x List.mem_cons_self
  have:=aBn (b:=b.erase x) h2 fun y hy=>(List.mem_erase_of_ne (fun (e:y=x)=>h1 (e ▸ hy))).mpr (hs y (List.mem_cons_of_mem _ hy))
  rw[List.length_erase_of_mem hx] at this
  have:0<b.length:=List.length_pos_of_mem hx
  rw[List.length_cons]
  lia
theorem nR{n:Nat}{ts:Ts}{h:Nat}(F:Fine n ts)(hh:h<n):(outN n ts h).length=deg ts (ci h):=by
 have p:((outN n ts h).map fun (o:Nat)=>(ci h,ci o)).Perm (ts.filter fun t=>decide (t.1=ci h)):=by
  refine(List.perm_ext_iff_of_nodup (List.pairwise_map.mpr ((oP hh).imp fun {x y} q e=>q (Int.ofNat.inj (congrArg Prod.snd e)))) (F.nd.filter _)).mpr fun u=>?_
  rw[List.mem_map,List.mem_filter]
  constructor
  ·rintro⟨o,ho,rfl⟩
   exact⟨(cU F hh).mp ho,decide_eq_true rfl⟩
  ·rintro⟨a,b⟩
   have r:=F.rg u a
   refine⟨u.2.toNat,(cU F hh).mpr ?_,?_⟩
   ·show (ci h,ci u.2.toNat)∈ts
    rw[show (ci h,ci u.2.toNat)=u from Prod.ext (of_decide_eq_true b).symm (show ((u.2.toNat:Nat):Int)=u.2 by lia)]
    exact a
   ·exact Prod.ext (of_decide_eq_true b).symm (show ((u.2.toNat:Nat):Int)=u.2 by lia)
 unfold deg
 rw[← p.length_eq,List.length_map]
theorem qF{P P':Nat→Bool}{i:Nat}(he:∀j,j≠i→P' j=P j)(hi:P i=false):∀ {m:Nat},i<m→(List.range m).countP P'=(List.range m).countP P+(if P' i=true then 1 else 0)
 |0,h=>absurd h (Nat.not_lt_zero _)
 |m+1,h=>by
  rw[List.range_succ,List.countP_append,List.countP_append,List.countP_singleton,List.countP_singleton]
  by_cases c:i<m
  ·rw[qF he hi c,he m (by lia)];lia
  ·obtain rfl:i=m:=by lia
   rw[show (List.range i).countP P'=(List.range i).countP P from List.countP_congr fun j hj=>by rw[he j (by have:=List.mem_range.mp hj;lia)],hi]
   simp
theorem uP{P P':Nat→Bool}(h:∀j,P j=true→P' j=true){m:Nat}:(List.range m).countP P≤(List.range m).countP P':=List.countP_mono_left fun j _=>h j
theorem aEl{P P':Nat→Bool}{i:Nat}(h:∀j,P j=true→P' j=true)(hi:P i=false)(hi':P' i=true){m:Nat}(hm:i<m):(List.range m).countP P<(List.range m).countP P':=by
 have a:=qF (P:=P) (P':=fun j=>if j=i then true else P j) (i:=i) (fun j hj=>if_neg hj) hi hm
 have b:=uP (P:=fun j=>if j=i then true else P j) (P':=P') (m:=m) fun j hj=>by
  by_cases c:j=i
  ·rw[c];exact hi'
  ·rw[if_neg c] at hj;exact h j hj
 rw[if_pos rfl,if_pos rfl] at a
 lia
theorem aEm{st:List (Option Nat)}:st=(List.range st.length).map fun j=>st.getD j none:=by
 apply List.ext_getElem?
 intro i
 by_cases h:i<st.length
 ·rw[List.getElem?_map,List.getElem?_range h];simp[List.getD_eq_getElem?_getD,h]
 ·rw[List.getElem?_eq_none (by lia),List.getElem?_eq_none (by rw[List.length_map,List.length_range];lia)]
theorem xL{st:List (Option Nat)}{o:Option Nat}:st.count o=(List.range st.length).countP fun j=>decide (st.getD j none=o):=by
 have e:st.count o=((List.range st.length).map fun j=>st.getD j none).count o:=congrArg _ aEm
 rw[e,List.count_eq_countP,List.countP_map]
 exact List.countP_congr fun j _=>by simp
def hasB(st fs:List (Option Nat))(h j:Nat):Bool:=decide (st.getD j none=some h)&&(fs.getD j none).isSome
structure LInv(n:Nat)(ts:Ts)(st fs:List (Option Nat))(ls:Nat→List Nat):Prop where
 len:fs.length=st.length
 nd:∀h,h<n→(ls h).Nodup
 sub:∀h,h<n→∀x∈ls h,x∈outN n ts h
 cnt:∀h,h<n→(ls h).length+(List.range st.length).countP (hasB st fs h)=(outN n ts h).length
 out:∀j y,fs.getD j none=some y→∃h,h<n∧st.getD j none=some h∧y∈outN n ts h∧y∉ls h
 inj:∀j k y,j≠k→fs.getD j none=some y→fs.getD k none=some y→st.getD j none≠st.getD k none
theorem lR{m j:Nat}:(List.replicate m (none:Option Nat)).getD j none=none:=by
 rw[List.getD_eq_getElem?_getD,List.getElem?_replicate];split <;> rfl
theorem LInv.start{n:Nat}{ts:Ts}{st:List (Option Nat)}:LInv n ts st (List.replicate st.length none) (outN n ts):=
 ⟨List.length_replicate,fun h hh=>oP hh,fun h _ x hx=>hx,fun h _=>by
  rw[show (List.range st.length).countP (hasB st (List.replicate st.length none) h)=0 from List.countP_eq_zero.mpr fun j _=>by unfold hasB;rw[lR];simp]
  rfl,(fun j y hy=>by rw[lR] at hy;cases hy),(fun j k y _ hy=>by rw[lR] at hy;cases hy)⟩
theorem fJ{fs:List (Option Nat)}{i j:Nat}{o:Option Nat}(hi:i<fs.length):(fs.set i o).getD j none=if j=i then o else fs.getD j none:=by
 rw[List.getD_eq_getElem?_getD,List.getElem?_set]
 by_cases c:i=j
 ·subst c;rw[if_pos rfl,if_pos hi,if_pos rfl];rfl
 ·rw[if_neg c,if_neg (fun z=>c z.symm),List.getD_eq_getElem?_getD]
theorem LInv.step{n:Nat}{ts:Ts}{st fs:List (Option Nat)}{ls:Nat→List Nat}(I:LInv n ts st fs ls){i h y:Nat}{l:List Nat}(hi:i<st.length)(hs:st.getD i none=some h)(hh:h<n)(hf:fs.getD i none=none)(hy:y∈ls h)(l1:l.Nodup)(l2:∀x∈l,x∈ls h∧x≠y)(l3:l.length+1=(ls h).length):LInv n ts st (fs.set i (some y)) fun k=>if k=h then l else ls k:=by
 have hi':i<fs.length:=by rw[I.len];exact hi
 refine⟨by rw[List.length_set];exact I.len,fun k hk=>?_,fun k hk x hx=>?_,fun k hk=>?_,fun j z hz=>?_,fun j k z ne h1 h2=>?_⟩
 ·split
  ·exact l1
  ·exact I.nd k hk
 ·split at hx
  ·rename_i e;subst e;exact I.sub k hk x (l2 x hx).1
  ·exact I.sub k hk x hx
 ·have c:=qF (P:=hasB st fs k) (P':=hasB st (fs.set i (some y)) k) (i:=i) (fun j hj=>by unfold hasB;rw[fJ hi',if_neg hj]) (by unfold hasB;rw[hf];simp) hi
  have e:hasB st (fs.set i (some y)) k i=decide (k=h):=by
   unfold hasB
   rw[fJ hi',if_pos rfl,hs,Option.isSome_some,Bool.and_true]
   exact decide_eq_decide.mpr ⟨(fun z=>(Option.some.inj z).symm),(fun z=>by rw[z])⟩
  rw[e] at c
  have:=I.cnt k hk
  by_cases ck:k=h
  ·subst ck;rw[if_pos rfl,c,decide_eq_true rfl,if_pos rfl];lia
  ·rw[if_neg ck,c,decide_eq_false ck,if_neg (by decide)];lia
 ·rw[fJ hi'] at hz
  split at hz
  ·rename_i e;subst e;cases hz
   refine⟨h,hh,hs,I.sub h hh _ hy,?_⟩
   rw[if_pos rfl]
   exact fun m=>(l2 _ m).2 rfl
  ·obtain⟨k,a,b,c,d⟩:=I.out j z hz
   refine⟨k,a,b,c,fun m=>d ?_⟩
   split at m
   ·rename_i e;subst e;exact(l2 _ m).1
   ·exact m
 ·rw[fJ hi'] at h1 h2
  by_cases c1:j=i
  ·subst c1
   rw[if_pos rfl] at h1
   rw[if_neg (fun z=>ne z.symm)] at h2
   cases h1
   obtain⟨k',_,b,_,d⟩:=I.out k y h2
   rw[hs,b]
   exact fun e=>d (by cases e;exact hy)
  ·rw[if_neg c1] at h1
   by_cases c2:k=i
   ·subst c2
    rw[if_pos rfl] at h2
    cases h2
    obtain⟨k',_,b,_,d⟩:=I.out j y h1
    rw[hs,b]
    exact fun e=>d (by cases e;exact hy)
   ·rw[if_neg c2] at h2
    exact I.inj j k z ne h1 h2
theorem LInv.full{n:Nat}{ts:Ts}{st fs:List (Option Nat)}{ls:Nat→List Nat}(I:LInv n ts st fs ls){i h:Nat}(hi:i<st.length)(hs:st.getD i none=some h)(hh:h<n)(hf:fs.getD i none=none)(cap:st.count (some h)≤(outN n ts h).length):0<(ls h).length:=by
 have a:=I.cnt h hh
 rw[xL] at cap
 have b:=aEl (P:=hasB st fs h) (P':=fun j=>decide (st.getD j none=some h)) (i:=i) (fun j hj=>(Bool.and_eq_true_iff.mp hj).1) (by unfold hasB;rw[hf];simp) (decide_eq_true hs) hi
 lia
structure Hd(n:Nat)(ts:Ts)(st fs:List (Option Nat)):Prop where
 len:fs.length=st.length
 non:∀j,st.getD j none=none→fs.getD j none=none
 out:∀j h,st.getD j none=some h→∃y,fs.getD j none=some y∧y∈outN n ts h
 inj:∀j k y,j≠k→fs.getD j none=some y→fs.getD k none=some y→st.getD j none≠st.getD k none
theorem LInv.done{n:Nat}{ts:Ts}{st fs:List (Option Nat)}{ls:Nat→List Nat}(I:LInv n ts st fs ls)(h:∀j,st.getD j none≠none→fs.getD j none≠none):Hd n ts st fs:=by
 refine⟨I.len,fun j hj=>?_,fun j k hk=>?_,I.inj⟩
 ·match e:fs.getD j none with
  |none=>rfl
  |some y=>obtain⟨k,_,b,_⟩:=I.out j y e;rw[hj] at b;cases b
 ·match e:fs.getD j none with
  |none=>exact absurd e (h j (by rw[hk];exact fun z=>by cases z))
  |some y=>
   obtain⟨k',_,b,c,_⟩:=I.out j y e
   rw[hk] at b;cases b
   exact⟨y,rfl,c⟩
def nxS(homes:List Nat)(fs:List (Option Nat)):List (Option Nat):=(List.range fs.length).map fun j=>if fs.getD j none=some (homes.getD j 0) then none else fs.getD j none
theorem jV{homes:List Nat}{fs:List (Option Nat)}:(nxS homes fs).length=fs.length:=by unfold nxS;rw[List.length_map,List.length_range]
theorem xM{homes:List Nat}{fs:List (Option Nat)}{j y:Nat}(h:(nxS homes fs).getD j none=some y):fs.getD j none=some y:=by
 unfold nxS at h
 by_cases hj:j<fs.length
 ·rw[List.getD_eq_getElem?_getD,List.getElem?_map,List.getElem?_range hj,Option.map_some,Option.getD_some] at h
  split at h
  ·cases h
  ·exact h
 ·rw[List.getD_eq_getElem?_getD,List.getElem?_eq_none (by rw[List.length_map,List.length_range];lia)] at h
  cases h
theorem Hd.next{n:Nat}{ts:Ts}{homes:List Nat}{st fs:List (Option Nat)}(F:Fine n ts)(S:Stnd n ts homes st)(d:Hd n ts st fs):Stnd n ts homes (nxS homes fs):=by
 have mem:∀ {l:List (Option Nat)} {y:Nat},some y∈l→∃j,j<l.length∧l.getD j none=some y:=fun {l y} h=>by
  obtain⟨j,hj,e⟩:=List.getElem_of_mem h
  exact⟨j,hj,by rw[List.getD_eq_getElem?_getD,List.getElem?_eq_getElem hj,e];rfl⟩
 have sto:∀j y,fs.getD j none=some y→∃h,h<n∧st.getD j none=some h∧y∈outN n ts h:=fun j y hy=>by
  match e:st.getD j none with
  |none=>rw[d.non j e] at hy;cases hy
  |some h=>
   obtain⟨y',a,b⟩:=d.out j h e
   rw[hy] at a;cases a
   have hj:j<st.length:=by
    rcases Nat.lt_or_ge j st.length with c|c
    ·exact c
    ·rw[List.getD_eq_getElem?_getD,List.getElem?_eq_none c] at e;cases e
   exact⟨h,S.ss h (by rw[← e,List.getD_eq_getElem?_getD,List.getElem?_eq_getElem hj];exact List.getElem_mem _),rfl,b⟩
 refine⟨by rw[jV,d.len];exact S.len,by rw[jV,d.len];exact S.le,S.hs,fun y hy=>?_,fun y hy=>?_⟩
 ·obtain⟨j,_,e⟩:=mem hy
  obtain⟨h,hh,_,b⟩:=sto j y (xM e)
  exact mH F hh b
 ·rw[xL,jV,nR F hy]
  refine Nat.le_trans (uP (P':=fun j=>decide (fs.getD j none=some y)) fun j hj=>decide_eq_true (xM (of_decide_eq_true hj))) ?_
  unfold deg
  rw[F.bal,List.countP_eq_length_filter]
  have e:∀j∈(List.range fs.length).filter (fun j=>decide (fs.getD j none=some y)),∃h:Nat,st.getD j none=some h∧(ci h,ci y)∈ts:=fun j hj=>by
   obtain⟨h,hh,a,b⟩:=sto j y (of_decide_eq_true (List.mem_filter.mp hj).2)
   exact⟨h,a,(cU F hh).mp b⟩
  have nd:(((List.range fs.length).filter (fun j=>decide (fs.getD j none=some y))).map fun j=>(ci ((st.getD j none).getD 0),ci y)).Nodup:=by
   refine List.pairwise_map.mpr ?_
   refine List.Pairwise.imp_of_mem ?_ (List.Pairwise.filter _ List.nodup_range)
   intro a b ha hb hab ee
   obtain⟨h1,g1,_⟩:=e a ha
   obtain⟨h2,g2,_⟩:=e b hb
   rw[g1,g2] at ee
   have:h1=h2:=Int.ofNat.inj (congrArg Prod.fst ee)
   exact d.inj a b y hab (of_decide_eq_true (List.mem_filter.mp ha).2) (of_decide_eq_true (List.mem_filter.mp hb).2) (by rw[g1,g2,this])
  have:=aBn (b:=ts.filter fun t=>decide (t.2=ci y)) nd fun u hu=>by
   obtain⟨j,hj,rfl⟩:=List.mem_map.mp hu
   obtain⟨h,g,t⟩:=e j hj
   rw[g]
   exact List.mem_filter.mpr ⟨t,decide_eq_true rfl⟩
  rw[List.length_map] at this
  exact this
theorem pC{l:List Nat}{d:Nat}(nd:l.Nodup)(hd:d<l.length):l[d]∈l∧(l.eraseIdx d).Nodup∧(∀x∈l.eraseIdx d,x∈l∧x≠l[d])∧(l.eraseIdx d).length+1=l.length:=by
 refine⟨List.getElem_mem _,nd.sublist (List.eraseIdx_sublist _ _),fun x hx=>⟨List.mem_of_mem_eraseIdx hx,?_⟩,by rw[List.length_eraseIdx_of_lt hd];lia⟩
 obtain⟨i,hi,ne,e⟩:=List.mem_eraseIdx_iff_getElem.mp hx
 rw[← e]
 exact fun z=>ne ((List.getElem_inj nd).mp z)
def pad(fs:List (Option Nat))(m:Nat):List (Option Nat):=fs++List.replicate (m-fs.length) none
theorem xN{fs:List (Option Nat)}{m:Nat}(h:fs.length<m)(o:Option Nat):pad (fs++[o]) m=(pad fs m).set fs.length o:=by
 unfold pad
 rw[List.length_append,List.length_singleton,List.append_assoc,show m-fs.length=(m-(fs.length+1))+1 by lia,List.replicate_succ,List.set_append_right _ _ (Nat.le_refl _),Nat.sub_self]
 rfl
theorem aEn{fs:List (Option Nat)}{m:Nat}:(pad fs m).getD fs.length none=none:=by
 unfold pad
 rw[List.getD_eq_getElem?_getD,List.getElem?_append_right (Nat.le_refl _),List.getElem?_replicate];split <;> rfl
theorem aDA{fs:List (Option Nat)}{m:Nat}(h:fs.length<m):pad (fs++[none]) m=pad fs m:=by
 rw[xN h]
 unfold pad
 rw[show m-fs.length=(m-(fs.length+1))+1 by lia,List.replicate_succ,List.set_append_right _ _ (Nat.le_refl _),Nat.sub_self]
 rfl
theorem aCe{fs:List (Option Nat)}:pad fs fs.length=fs:=by unfold pad;rw[Nat.sub_self];simp
theorem aEo{fs:List (Option Nat)}{o:Option Nat}{j:Nat}:(fs++[o]).getD j none=if j=fs.length then o else fs.getD j none:=by
 rw[List.getD_eq_getElem?_getD]
 by_cases c:j<fs.length
 ·rw[List.getElem?_append_left c,if_neg (by lia),List.getD_eq_getElem?_getD]
 ·rw[List.getElem?_append_right (by lia)]
  by_cases e:j=fs.length
  ·rw[if_pos e,e,Nat.sub_self];rfl
  ·rw[if_neg e,List.getElem?_eq_none (by rw[List.length_singleton];lia),List.getD_eq_getElem?_getD,List.getElem?_eq_none (by lia)]
end K12
namespace K12
open PySem L2 NetM
abbrev zV:Stmt:=top 39
def rowN(n:Nat)(R:List Nat)(f:Nat→Nat):List Nat:=(List.range n).map fun x=>if x∈R then f x else n
theorem aCf{n:Nat}{R:List Nat}{f:Nat→Nat}:(rowN n R f).length=n:=by unfold rowN;rw[List.length_map,List.length_range]
theorem uQ{n:Nat}{R:List Nat}{f:Nat→Nat}{x:Nat}(h:x<n):(NV (rowN n R f))[x]?=some (.int ((if x∈R then f x else n:Nat):Int)):=by
 unfold NV rowN
 rw[List.getElem?_map,List.getElem?_map,List.getElem?_range h];rfl
theorem zW{n s:Nat}(hs:s<n):(NV (List.replicate n n)).set s (V.int 0)=NV (rowN n [s] (fun _=>0)):=by
 rw[show V.int 0=V.int ((0:Nat):Int) from rfl,jR]
 congr 1
 apply List.ext_getElem?
 intro x
 unfold rowN
 by_cases hx:x<n
 ·rw[List.getElem?_set,List.getElem?_map,List.getElem?_range hx,List.length_replicate,List.getElem?_replicate,if_pos hx]
  by_cases c:s=x
  ·subst c;simp[hx]
  ·have c':¬ x=s:=fun z=>c z.symm
   rw[if_neg c];simp[c']
 ·rw[List.getElem?_eq_none (by rw[List.length_set,List.length_replicate];lia),List.getElem?_eq_none (by rw[List.length_map,List.length_range];lia)]
theorem aCg{n v k:Nat}{R:List Nat}{f:Nat→Nat}(hv:v<n):(NV (rowN n R f)).set v (V.int ((k:Nat):Int))=NV (rowN n (R++[v]) (put f v k)):=by
 rw[jR]
 congr 1
 apply List.ext_getElem?
 intro x
 unfold rowN
 by_cases hx:x<n
 ·rw[List.getElem?_set,List.getElem?_map,List.getElem?_map,List.getElem?_range hx,List.length_map,List.length_range]
  by_cases c:v=x
  ·subst c;simp[hx,put]
  ·have c':¬ x=v:=fun z=>c z.symm
   rw[if_neg c];simp[put,c']
 ·rw[List.getElem?_eq_none (by rw[List.length_set,List.length_map,List.length_range];lia),List.getElem?_eq_none (by rw[List.length_map,List.length_range];lia)]
def aEX(σ:St):Nat:=match σ[6]? with
 |some (some (V.int i))=>i.toNat
 |_=>0
section
variable {P:Program} {w:World} {K:PySem.W.Frag} {mg:Str→Option Value} {base:Heap}
theorem gG:aZ ["_law_n","_law_outs_here","_law_found","_law_begin","_law_row","_law_line","_law_at","_law_here","_law_there"] ["_law_n","_law_outs_here"] (aN zV):=⟨rfl,rfl,rfl,by decide +kernel,rfl,by decide +kernel,by decide +kernel⟩
def uR:Sp:=fun vs H Q _=>∃ (L:Addr→Prop) (o:Addr) (n:Nat) (ts:Ts),vs=[.int n,.ref o]∧Fine n ts∧bL H L o n (outN n ts)∧∀ (r:Addr) (H':Hp),Same H H'→H r=none→bL H' (fun b=>H b=none) r n (fun h=>(List.range n).map (far ts h))→Q (.ref r) H'
theorem aDB{f:Addr}{fd:FuncData}(F:Fun K "_law_far" "_law_far" zV f fd)(B:Bl mg):FnOk P w K mg base CX0 1 f fd ["_law_n","_law_outs_here"] uR:=by
 refine F.ok gG (fun vs H Q E h=>?_) (fun cdv A outer s H vs Q E hr h=>?_)
 ·obtain⟨L,o,n,ts,rfl,_⟩:=h
  rfl
 ·obtain⟨L,o,n,ts,rfl,fi,O,q⟩:=h
  have n1:=fi.n1
  have n2:=fi.n2
  refine⟨_,(aE (aO (i:=2) gG.nd rfl (Or.inl rfl) (bU aD))
   (aE (cA PassesOwn.never rfl (bN rfl B.range (aA (pv 0) aD)) (aL (i:=3) gG.nd rfl (Or.inl rfl))
    (aE (aO (i:=4) gG.nd rfl (Or.inl rfl) (aY kT (bU (aA (pv 0) aD)) (pv 0)))
    (aE (cK aK (eI (pv 4) (pv 3) dA))
    (aE (aO (i:=5) gG.nd rfl (Or.inl rfl) (bU (aA (pv 3) aD)))
    (aE (aO (i:=6) gG.nd rfl (Or.inl rfl) aK)
    (aE (sA PassesOwn.never (aV hJ (pv 6) (aS aW (by rfl) B.len PySem.boot_len (aA (pv 5) aD)) (aX _)) (aE (aO (i:=7) gG.nd rfl (Or.inl rfl) (aR aP (pv 5) (pv 6) (fun _ _=>rfl)))
     (aE (cA PassesOwn.never rfl (bP (aR aP (pv 1) (pv 7) (fun _ _=>rfl))) (aL (i:=8) gG.nd rfl (Or.inl rfl))
      (aJ (bR (aV dM (aR aP (pv 4) (pv 8) (fun _ _=>rfl)) (pv 0) (aX _)) (aE (cK (aY cL (aR aP (pv 4) (pv 7) (fun _ _=>rfl)) aK) (eI (pv 4) (pv 8) dA))
       (aJ (bS (cX PySem.F.plainAttrs_list PySem.F.slot_list_append PySem.F.type_list_append cP (pv 5) (aA (pv 8) aD))))) bD)))
     (aJ (aO (i:=6) gG.nd rfl (Or.inl rfl) (aY cL (pv 6) aK))))))
    (aJ (bS (cX PySem.F.plainAttrs_list PySem.F.slot_list_append PySem.F.type_list_append cP (pv 2) (aA (pv 4) aD))))))))))
   (aJ (bA (pv 2))))),?_⟩
  obtain⟨bs,hol,hbL,hbl,hbs⟩:=O
  refine⟨by show 0≤sizeLine;decide,fun F hF=>?_⟩
  have sF:=aG (o:=.lst []) hF
  refine⟨_,rfl,(n:Int),rfl,by lia,by lia,cI (n:=n) (lo:=0) (fun i σ Hc=>(∃a b c d e g,σ=[some (.int (n:Int)),some (.ref o),some (.ref F),a,b,c,d,e,g])∧Same H Hc∧∃ds:List Addr,Hc F=some (.lst (ds.map V.ref))∧(∀b∈ds,H b=none∧b≠F)∧ds.length=i∧∀j,j<i→Hc (ds.getD j 0)=some (.lst (NV ((List.range n).map (far ts j))))) ⟨⟨_,_,_,_,_,_,rfl⟩,sF,[],aB,fun b hb=>(nomatch hb),rfl,fun j hj=>absurd hj (Nat.not_lt_zero _)⟩ ?_ ?_⟩
  rotate_left
  ·rintro σ Hc ⟨⟨a,b,c,d,e,g,rfl⟩,sc,ds,hFc,hds,dl,hdj⟩
   exact⟨_,rfl,q F Hc sc hF ⟨ds,hFc,fun b hb=>(hds b hb).1,dl,hdj⟩⟩
  ·rintro b σ Hc hb ⟨⟨_,_,_,_,_,_,rfl⟩,sc,ds,hFc,hds,dl,hdj⟩
   rw[Int.zero_add]
   refine⟨_,rfl,by show 1≤sizeLine;decide,fun L1 hL1=>⟨_,rfl,L1,_,_,rfl,rfl,aB,by lia,by lia,by rw[Int.toNat_natCast,List.length_singleton];exact Nat.le_trans (show 1*n≤32 by lia) (by decide),fun D hD=>?_⟩⟩
   rw[Int.toNat_natCast,gO]
   have eM:List.replicate n (V.int (n:Int))=NV (List.replicate n n):=by unfold NV;rw[List.map_replicate]
   rw[eM]
   have s1:=sc.trans (aG (o:=.lst [.int (n:Int)]) hL1)
   have hFD:F≠D:=aH ((aG (o:=.lst [.int (n:Int)]) hL1) _ _ hFc) hD
   have fD:=s1.free hD
   have dsD:∀c∈ds,c≠D:=fun c hc=>by
    rintro rfl
    exact absurd hD (by
     obtain⟨j,hj,e⟩:=List.getElem_of_mem hc
     have:(upd Hc L1 (.lst [.int (n:Int)])) c=some (.lst (NV ((List.range n).map (far ts j)))):=(aG hL1) _ _ (by have:=hdj j (by lia);rw[List.getD_eq_getElem?_getD,List.getElem?_eq_getElem hj,Option.getD_some,e] at this;exact this)
     rw[this];exact fun z=>by cases z)
   have hF1:=(aG (o:=.lst [.int (n:Int)]) hL1) _ _ hFc
   have hdj1:∀j,j<b→(upd Hc L1 (.lst [.int (n:Int)])) (ds.getD j 0)=some (.lst (NV ((List.range n).map (far ts j)))):=fun j hj=>(aG hL1) _ _ (hdj j hj)
   generalize upd Hc L1 _=H1 at *
   refine⟨_,rfl,_,rfl,D,_,b,b,rfl,rfl,aB,by rw[aU,List.length_replicate];exact cT hb,?_⟩
   rw[jE,zW hb]
   refine⟨_,rfl,by show 1≤sizeLine;decide,fun R hR=>?_⟩
   have nDR:D≠R:=aH (H:=upd H1 D (.lst (NV (rowN n [b] (fun _=>0))))) aB hR
   have hR0:H1 R=none:=by rw[aF nDR.symm] at hR;exact hR
   have fR:=s1.free hR0
   have hFR:F≠R:=aH hF1 hR0
   have dsR:∀c∈ds,c≠R:=fun c hc=>by
    rintro rfl
    obtain⟨j,hj,e⟩:=List.getElem_of_mem hc
    have:=hdj1 j (by lia)
    rw[List.getD_eq_getElem?_getD,List.getElem?_eq_getElem hj,Option.getD_some,e,hR0] at this
    cases this
   have sm0:Same H1 (upd (upd H1 D (.lst (NV (rowN n [b] (fun _=>0))))) R (.lst [.int (b:Int)])):=bE (aG hD) hR0
   have hol1:=s1 _ _ hol
   have hbs1:∀u,u<n→H1 (bs.getD u 0)=some (.lst (NV (outN n ts u))):=fun u hu=>s1 _ _ (hbs u hu)
   refine sC (fun σ H2=>∃ (i:Nat) (Rs:List Nat) (f:Nat→Nat),i≤Rs.length∧Bfs n ts b i Rs f∧(∀x∈Rs,f x<Rs.length)∧(∃u v,σ=[some (.int (n:Int)),some (.ref o),some (.ref F),some (.int (b:Int)),some (.ref D),some (.ref R),some (.int (i:Int)),u,v])∧Same H1 H2∧H2 D=some (.lst (NV (rowN n Rs f)))∧H2 R=some (.lst (NV Rs)))
    (fun σ _=>n-aEX σ) ⟨0,[b],fun _=>0,Nat.zero_le _,Bfs.start hb,fun x hx=>Nat.zero_lt_one,⟨_,_,rfl⟩,sm0,?_,aB⟩ ?_ ?_
   ·rw[aF nDR,aB]
   ·rintro σ H2 ⟨i,Rs,f,hi,Bf,fl,⟨u',v',rfl⟩,sm,hD2,hR2⟩
    have hRn:Rs.length≤n:=dY Bf.nd Bf.lt
    refine⟨_,rfl,_,rfl,R,_,rfl,.inl (SqL.of hR2),_,_,rfl,rfl,_,rfl,?_⟩
    rw[aU]
    by_cases hin:i<Rs.length
    ·rw[show decide ((i:Int)<((Rs.length:Nat):Int))=true by simp;lia]
     refine iteT ?_
     have hu:Rs[i]?=some Rs[i]:=List.getElem?_eq_getElem hin
     generalize Rs[i]=u at hu
     have hun:u<n:=Bf.lt u (List.mem_of_getElem? hu)
     have huR:(NV Rs)[i]?=some (.int (u:Int)):=by rw[List.getElem?_map,hu];rfl
     refine⟨_,rfl,_,rfl,R,_,_,_,rfl,rfl,SqL.of hR2,aM huR,?_⟩
     have hb1:=fO (bs:=bs) (h:=u) (by rw[hbl];exact hun)
     have hb2:=sm _ _ (hbs1 _ hun)
     refine⟨_,rfl,_,rfl,o,_,_,_,rfl,rfl,SqL.of (sm _ _ hol1),aM hb1,_,rfl,⟨_,SqL.of hb2⟩,?_⟩
     refine fP (K:=K) (xs:=NV (outN n ts u)) (fun j σ H3=>∃ (Rs':List Nat) (f':Nat→Nat),Bfs n ts b i Rs' f'∧(∀x∈Rs',f' x<Rs'.length)∧Rs'[i]?=some u∧(∀v∈(outN n ts u).take j,v∈Rs'∧f' v≤f' u+1)∧
      (∃c,σ=[some (.int (n:Int)),some (.ref o),some (.ref F),some (.int (b:Int)),some (.ref D),some (.ref R),some (.int (i:Int)),some (.int (u:Int)),c])∧Same H1 H3∧H3 D=some (.lst (NV (rowN n Rs' f')))∧H3 R=some (.lst (NV Rs')))
      ⟨Rs,f,Bf,fl,hu,fun v hv=>by simp at hv,⟨_,rfl⟩,sm,hD2,hR2⟩ (fun j σ H3 _ ⟨_,_,_,_,_,_,_,sm3,_⟩=>SqL.of (sm3 _ _ (hbs1 _ hun))) ?_ ?_
     ·rintro j x σ H3 hx ⟨Rs',f',Bf',fl',hu',dn,⟨b',rfl⟩,sm3,hD3,hR3⟩
      obtain⟨v,hv,rfl⟩:=kF hx
      have hvm:v∈outN n ts u:=List.mem_of_getElem? hv
      have hvn:v<n:=mH fi hun hvm
      have tuv:T ts u v:=(cU fi hun).mp hvm
      have tk:(outN n ts u).take (j+1)=(outN n ts u).take j++[v]:=by rw[List.take_add_one,hv];rfl
      have hun':u∈Rs':=List.mem_of_getElem? hu'
      have hlen':Rs'.length≤n:=dY Bf'.nd Bf'.lt
      refine⟨_,rfl,_,rfl,D,_,_,_,rfl,rfl,SqL.of hD3,aM (uQ hvn),_,rfl,rfl,_,rfl,?_⟩
      by_cases hvR:v∈Rs'
      ·rw[if_pos hvR]
       have ne:f' v≠n:=by have:=fl' v hvR;lia
       refine kH (by simp;lia) ⟨Rs',f',Bf',fl',hu',fun x hx=>?_,⟨_,rfl⟩,sm3,hD3,hR3⟩
       rw[tk] at hx
       rcases List.mem_append.mp hx with z|z
       ·exact dn x z
       ·simp at z;subst z;exact⟨hvR,Bf'.bd u hu' _ hvR⟩
      ·rw[if_neg hvR]
       refine iX (by simp) ?_
       have hg2:(NV (rowN n Rs' f'))[u]?=some (.int ((f' u:Nat):Int)):=by rw[uQ hun,if_pos hun']
       refine⟨_,rfl,_,rfl,D,_,_,_,rfl,rfl,SqL.of hD3,aM hg2,_,_,rfl,rfl,_,rfl,_,rfl,D,_,_,_,rfl,rfl,hD3,by rw[aU,aCf];exact cT hvn,?_⟩
       have e1:(NV (rowN n Rs' f')).set v (.int (((f' u:Nat):Int)+1))=NV (rowN n (Rs'++[v]) (put f' v (f' u+1))):=by
        rw[show ((f' u:Nat):Int)+1=((f' u+1:Nat):Int) by lia,aCg hvn]
       rw[e1]
       have hR4:(upd H3 D (.lst (NV (rowN n (Rs'++[v]) (put f' v (f' u+1)))))) R=some (.lst (NV Rs')):=by rw[aF nDR.symm];exact hR3
       refine⟨_,rfl,.inl ⟨rfl,_,SqL.of hR4⟩,_,rfl,R,_,_,rfl,rfl,hR4,by rw[aU];exact Nat.lt_of_lt_of_le (show Rs'.length<33 by lia) (by decide),?_⟩
       have hi':i<Rs'.length:=(List.getElem?_eq_some_iff.mp hu').1
       have nuv:u≠v:=fun z=>hvR (z ▸ hun')
       refine⟨Rs'++[v],put f' v (f' u+1),Bf'.add hu' hvn tuv hvR,fun x hx=>?_,by rw[List.getElem?_append_left hi'];exact hu',fun x hx=>?_,⟨_,rfl⟩,bE (bE sm3 hD) hR0,?_,?_⟩
       ·rw[List.length_append,List.length_singleton]
        rcases List.mem_append.mp hx with z|z
        ·rw[dJ (fun (y:x=v)=>hvR (y ▸ z))];have:=fl' x z;lia
        ·simp at z;subst z;rw[fT];have:=fl' u hun';lia
       ·rw[dJ nuv]
        rw[tk] at hx
        rcases List.mem_append.mp hx with z|z
        ·obtain⟨q1,q2⟩:=dn x z
         exact⟨List.mem_append_left _ q1,by rw[dJ (fun (z:x=v)=>hvR (z ▸ q1))];exact q2⟩
        ·simp at z;subst z
         exact⟨by simp,by rw[fT];exact Nat.le_refl _⟩
       ·rw[aF nDR,aB]
       ·rw[aB,gN]
     ·rintro σ H3 ⟨Rs',f',Bf',fl',hu',dn,⟨b',rfl⟩,sm3,hD3,hR3⟩
      rw[aU,List.take_length] at dn
      have hi':i<Rs'.length:=(List.getElem?_eq_some_iff.mp hu').1
      have hlen':Rs'.length≤n:=dY Bf'.nd Bf'.lt
      refine⟨_,rfl,_,_,rfl,rfl,⟨⟨i+1,Rs',f',hi',Bf'.next hu' (fun v t=>dn v ((cU fi hun).mpr t)),fl',⟨_,_,rfl⟩,sm3,hD3,hR3⟩,?_⟩⟩
      show n-((i:Int)+1).toNat<n-(i:Int).toNat
      lia
    ·rw[show decide ((i:Int)<((Rs.length:Nat):Int))=false by rw[decide_eq_false_iff_not];lia]
     have e:rowN n Rs f=(List.range n).map (far ts b):=by
      unfold rowN
      refine List.map_congr_left fun x hx=>?_
      obtain⟨q1,q2⟩:=Bf.done fi (by lia) (List.mem_range.mp hx)
      rw[if_pos q1,q2]
     rw[e] at hD2
     have hF2:=sm _ _ hF1
     refine iteF ⟨_,rfl,.inl ⟨rfl,_,SqL.of hF2⟩,_,rfl,F,_,_,rfl,rfl,hF2,by rw[List.length_map,dl];exact Nat.lt_of_lt_of_le (show b<33 by lia) (by decide),?_⟩
     refine⟨⟨_,_,_,_,_,_,rfl⟩,fun c ob ec=>?_,ds++[D],by rw[aB,List.map_append];rfl,fun c hc=>?_,by rw[List.length_append,dl];rfl,fun j hj=>?_⟩
     ·rw[aF (aH ec hF)];exact sm _ _ (s1 _ _ ec)
     ·rcases List.mem_append.mp hc with z|z
      ·exact hds c z
      ·rw[List.mem_singleton.mp z];exact⟨fD,hFD.symm⟩
     ·by_cases c:j<b
      ·have m:=fG (cs:=ds) (j:=j) (by lia)
       have e:(ds++[D]).getD j 0=ds.getD j 0:=by rw[List.getD_eq_getElem?_getD,List.getD_eq_getElem?_getD,List.getElem?_append_left (by lia)]
       rw[e,aF (hds _ m).2]
       exact sm _ _ (hdj1 j c)
      ·obtain rfl:j=b:=by lia
       have e:(ds++[D]).getD j 0=D:=by rw[List.getD_eq_getElem?_getD,List.getElem?_append_right (by lia),dl,Nat.sub_self];rfl
       rw[e,aF hFD.symm]
       exact hD2
   ·rintro σ H2 Q1 Q2 imp ⟨v,e1,v2,e2,p,ys,e3,e4,i1,i2,e5,e6,kk,e7,q⟩
    exact⟨v,e1,v2,e2,p,ys,e3,e4,i1,i2,e5,e6,kk,e7,imp _ _ q⟩
end
end K12
namespace K12
open PySem L2 NetM
section
variable {P:Program} {w:World} {K:PySem.W.Frag} {mg:Str→Option Value} {base:Heap}
theorem iF:aZ ["_law_pot_here","_law_outs_here","_law_stand_here","_law_left","_law_found","_law_house","_law_there"] ["_law_pot_here","_law_outs_here","_law_stand_here"] (aN uN):=⟨rfl,rfl,rfl,by decide +kernel,rfl,by decide +kernel,by decide +kernel⟩
def qG:Sp:=fun vs H Q _=>∃ (p:Addr) (r:Addr) (n:Nat) (ts:Ts) (L:Addr→Prop) (sa:Addr) (homes:List Nat) (st:List (Option Nat)),vs=[.ref p,.ref r,.ref sa]∧Fine n ts∧1≤n∧n≤32∧bB H p∧bL H L r n (outN n ts)∧H sa=some (.tup (st.map oV))∧Stnd n ts homes st∧
 ∀ (t:Addr) (fs:List (Option Nat)) (H':Hp),aI p H H'→bB H' p→H' t=some (.tup (fs.map oV))→Hd n ts st fs→Q (.ref t) H'
theorem aCh{f:Addr}{fd:FuncData}(F:Fun K "_law_right" "_law_right" uN f fd)(B:Bl mg)(D:Cal P w K mg base CX0 1 "_law_take" ["_law_pot_here","_law_many"] dZ):FnOk P w K mg base CX0 2 f fd ["_law_pot_here","_law_outs_here","_law_stand_here"] qG:=by
 refine F.ok iF (fun vs H Q E h=>?_) (fun cdv A outer s H vs Q E hr h=>?_)
 ·obtain⟨p,r,n,ts,L,sa,homes,st,rfl,_⟩:=h
  rfl
 ·obtain⟨p,r,n,ts,L,sa,homes,st,rfl,Fi,n1,n2,hp,R0,hsa,SD,q⟩:=h
  refine'⟨_,(aE (cM (i:=3) (g:=(bG 0)) (te:=(tCB (fun xs H Q=>∃p ys,xs=[V.ref p]∧(SqL K H p ys∨SqT K H p ys)∧∀l,H l=none→Q (.ref l) (upd H l (.lst ys))) (bK (tVar 0) tNil))) (NB:=["_law_row"]) (src:=[none]) (bH (by kernel_rfl)) rfl (bP (pv 1)) ?g1 ?t1 ?e1 iF.nd rfl rfl rfl)
   (aE (aO (i:=4) iF.nd rfl (Or.inl rfl) (bU aD))
   (aE (cA PassesOwn.never rfl (nW (pv 2)) (aL (i:=5) iF.nd rfl (Or.inl rfl))
    (aE (aO (i:=6) iF.nd rfl (Or.inl rfl) dQ)
    (aE (bR (aV lU (pv 5) dQ (aX _)) (aJ (aO (i:=6) iF.nd rfl (Or.inl rfl) (cX PySem.F.plainAttrs_list PySem.F.slot_list_pop PySem.F.type_list_pop nA (aR aP (pv 3) (pv 5) (fun _ _=>rfl)) (aA (aQ D hr aT (aA (pv 0) (aA (aS aW (by rfl) B.len PySem.boot_len (aA (aR aP (pv 3) (pv 5) (fun _ _=>rfl)) aD)) aD))) aD)))) bD)
    (aJ (bS (cX PySem.F.plainAttrs_list PySem.F.slot_list_append PySem.F.type_list_append cP (pv 4) (aA (pv 6) aD)))))))
   (aJ (bA (cD dO (by rfl) B.tup PyProof.Rows.boot_tuple (aA (pv 4) aD))))))),?_⟩
  case g1=>exact fun cl C s₃ H₃ fp=>(aL (i:=0) uO rfl (Or.inl rfl) (Or.inr rfl))
  case t1=>exact fun cl C s₃ H₃ fp=>bZ
  case e1=>exact fun cl C s₃ H₃ fp=>(cD eV (by rfl) B.lst PyProof.Rows.boot_list (aA (pv 0) aD))
  obtain⟨bs,b1,b2,b3⟩:=R0
  have bl:bs.length=n:=b3.1
  refine⟨_,rfl,r,rfl,⟨_,SqL.of b1⟩,fun D1 hD1=>?_⟩
  refine cJ (K:=K) (xs:=bs.map V.ref) (fun i ys σ H2=>(∃a,σ=[a])∧Same H H2∧H2 D1=some (.lst ys)∧∃cs:List Addr,ys=cs.map V.ref∧cs.length=i∧cs.Nodup∧(∀c∈cs,H c=none∧c≠D1∧H2 c≠none)∧∀j,j<i→H2 (cs.getD j 0)=some (.lst (NV (outN n ts j))))
   ⟨⟨_,rfl⟩,aG hD1,aB,[],rfl,rfl,List.nodup_nil,fun c hc=>(nomatch hc),fun j hj=>absurd hj (Nat.not_lt_zero _)⟩ (fun i ys σ H2 _ z=>SqL.of (z.2.1 _ _ b1)) ?_ ?_
  ·rintro i x ys σ H2 Kt Kf hx ⟨⟨a,rfl⟩,sm,hDl,cs,rfl,cl,nd,hc,hr2⟩ kt kf
   have hi:i<n:=by have:=(List.getElem?_eq_some_iff.mp hx).1;rw[List.length_map] at this;lia
   obtain rfl:V.ref (bs.getD i 0)=x:=by rw[fO (by lia)] at hx;exact Option.some.inj hx
   refine⟨_,rfl,_,_,rfl,.inl (SqL.of (sm _ _ (b3.2 i hi))),fun l hl=>?_⟩
   have nD:D1≠l:=aH hDl hl
   have nl:∀c∈cs,c≠l:=fun c hc'=>by rintro rfl;exact(hc c hc').2.2 hl
   refine kt _ _ _ (by rw[aF nD];exact hDl) (by rw[List.length_map,cl];exact Nat.lt_of_lt_of_le (show i<33 by lia) (by decide)) ⟨⟨_,rfl⟩,bE (sm.trans (aG hl)) hD1,aB,cs++[l],by rw[List.map_append];rfl,by rw[List.length_append,cl];rfl,?_,fun c hc'=>?_,fun j hj=>?_⟩
   ·exact List.nodup_append.mpr ⟨nd,by simp,fun a ha b hb=>by rw[List.mem_singleton.mp hb];exact nl a ha⟩
   ·rcases List.mem_append.mp hc' with z|z
    ·exact⟨(hc c z).1,(hc c z).2.1,by rw[aF (hc c z).2.1,aF (nl c z)];exact(hc c z).2.2⟩
    ·rw[List.mem_singleton.mp z]
     exact⟨sm.free hl,nD.symm,by rw[aF nD.symm,aB];exact fun z=>by cases z⟩
   ·by_cases c:j<i
    ·have m:=fG (cs:=cs) (j:=j) (by lia)
     have e:(cs++[l]).getD j 0=cs.getD j 0:=by rw[List.getD_eq_getElem?_getD,List.getD_eq_getElem?_getD,List.getElem?_append_left (by lia)]
     rw[e,aF (hc _ m).2.1,aF (nl _ m)]
     exact hr2 j c
    ·obtain rfl:j=i:=by lia
     have e:(cs++[l]).getD j 0=l:=by rw[List.getD_eq_getElem?_getD,List.getElem?_append_right (by lia),cl,Nat.sub_self];rfl
     rw[e,aF nD.symm,aB]
  rintro ys σ H2 ⟨⟨a,rfl⟩,sm,hDl,cs,rfl,cl,nd,hc,hr2⟩
  rw[List.length_map,bl] at cl hr2
  have fD:H D1=none:=hD1
  have cH:∀h,h<n→H (cs.getD h 0)=none∧cs.getD h 0≠D1:=fun h hh=>⟨(hc _ (fG (by lia))).1,(hc _ (fG (by lia))).2.1⟩
  dsimp only
  refine⟨by show 0≤sizeLine;decide,fun Fo hFo=>?_⟩
  have sF:=aG (o:=.lst []) hFo
  have fF:=sm.free hFo
  have nFD:Fo≠D1:=(aH hDl hFo).symm
  have nFc:∀h,h<n→cs.getD h 0≠Fo:=fun h hh=>aH (hr2 h hh) hFo
  have npF:=hp.ne fF
  have npD:=hp.ne fD
  have npc:∀h,h<n→cs.getD h 0≠p:=fun h hh=>hp.ne (cH h hh).1
  have nsa:=hp.neT hsa
  refine⟨_,rfl,sa,rfl,⟨_,SqT.of ((sm.trans sF) _ _ hsa)⟩,pI (K:=K) (xs:=st.map oV) (fun i σ Hc=>∃ (ls:Nat→List Nat) (fs:List (Option Nat)),(∃u v,σ=[some (.ref p),some (.ref r),some (.ref sa),some (.ref D1),some (.ref Fo),u,v])∧aI p H Hc∧bB Hc p∧Hc D1=some (.lst (cs.map V.ref))∧Hc Fo=some (.lst (fs.map oV))∧fs.length=i∧(∀j,j<i→st.getD j none≠none→fs.getD j none≠none)∧LInv n ts st (pad fs st.length) ls∧∀h,h<n→Hc (cs.getD h 0)=some (.lst (NV (ls h))))
   ⟨outN n ts,[],⟨_,_,rfl⟩,aI.of (sm.trans sF),hp.same (sm.trans sF),sF _ _ hDl,aB,rfl,fun j hj=>absurd hj (Nat.not_lt_zero _),LInv.start,fun h hh=>sF _ _ (hr2 h hh)⟩ (fun i σ Hc _ z=>by obtain⟨_,_,_,z,_⟩:=z;exact SqT.of (z _ _ hsa nsa)) ?_ ?_⟩
  ·rintro i x σ Hc hx ⟨ls,fs,⟨u,v,rfl⟩,sc,hpc,hDc,hFc,fl,hfs,LI,hls⟩
   have hi:i<st.length:=by have:=(List.getElem?_eq_some_iff.mp hx).1;rwa [List.length_map] at this
   rw[eT hi] at hx
   obtain rfl:=Option.some.inj hx
   have hoi:st[i]?=some (st.getD i none):=by rw[List.getD_eq_getElem?_getD,List.getElem?_eq_getElem hi];rfl
   have hom:st.getD i none∈st:=List.mem_of_getElem? hoi
   generalize ho:st.getD i none=o at *
   have i16:i<16:=Nat.lt_of_lt_of_le hi SD.le
   refine gX (fun σ H7=>H7=Hc∧σ=[some (.ref p),some (.ref r),some (.ref sa),some (.ref D1),some (.ref Fo),some (oV o),some .non]) ?_ (fun N hN=>hN _ _ ⟨rfl,rfl⟩)
   rintro σ H7 ⟨rfl,rfl⟩
   refine gX (fun σ H8=>∃ (ls:Nat→List Nat) (o':Option Nat),(σ=[some (.ref p),some (.ref r),some (.ref sa),some (.ref D1),some (.ref Fo),some (oV o),some (oV o')])∧aI p H H8∧bB H8 p∧H8 D1=some (.lst (cs.map V.ref))∧H8 Fo=some (.lst (fs.map oV))∧(o≠none→o'≠none)∧LInv n ts st (pad (fs++[o']) st.length) ls∧∀h,h<n→H8 (cs.getD h 0)=some (.lst (NV (ls h)))) ?_ ?_
   ·rintro σ H8 ⟨ls',o',rfl,s8,hp8,hD8,hF8,ho',LI',hls'⟩
    refine⟨_,rfl,.inl ⟨rfl,_,SqL.of hF8⟩,_,rfl,Fo,_,_,rfl,rfl,hF8,by rw[List.length_map,fl];exact Nat.lt_of_lt_of_le (show i<33 by lia) (by decide),?_⟩
    refine⟨ls',fs++[o'],⟨_,_,rfl⟩,aI.put s8 fF,hp8.put npF.symm,by rw[aF nFD.symm];exact hD8,by rw[aB,List.map_append];rfl,by rw[List.length_append,fl];rfl,fun j hj hn=>?_,LI',fun h hh=>?_⟩
    ·rw[aEo]
     by_cases c:j=fs.length
     ·rw[if_pos c];refine ho' (fun z=>hn ?_);rw[c,fl];exact ho.trans z
     ·rw[if_neg c];exact hfs j (by lia) hn
    ·rw[aF (nFc h hh)];exact hls' h hh
   ·intro N hN
    cases o with
    |none=>exact⟨_,rfl,rfl,_,rfl,iteF (hN _ _ ⟨ls,none,rfl,sc,hpc,hDc,hFc,(fun z=>absurd rfl z),by rw[aDA (by lia)];exact LI,hls⟩)⟩
    |some h=>
     have hh:h<n:=SD.ss h hom
     have g1:=hls h hh
     have pf:(pad fs st.length).getD i none=none:=by rw[← fl];exact aEn
     have lp:0<(ls h).length:=LI.full hi ho hh pf (SD.cap h hh)
     have lu:(ls h).length≤32:=by have:=mO (n:=n) (ts:=ts) (h:=h);have:=LI.cnt h hh;lia
     have ch:=fO (bs:=cs) (h:=h) (by lia)
     refine⟨_,rfl,rfl,_,rfl,iX rfl ?_⟩
     refine⟨_,rfl,_,rfl,D1,_,_,_,rfl,rfl,SqL.of hDc,aM ch,.inl ⟨rfl,_,SqL.of g1⟩,_,rfl,_,rfl,_,rfl,D1,_,_,_,rfl,rfl,SqL.of hDc,aM ch,_,_,rfl,.inl (SqL.of g1),p,_,rfl,by rw[aU];exact lp,by rw[aU];lia,hpc,fun d H9 hd s9 hp9=>?_⟩
     rw[aU] at hd
     have hv:(ls h)[d]?=some (ls h)[d]:=List.getElem?_eq_getElem hd
     refine⟨_,_,(d:Int),d,.int ((ls h)[d]:Nat),rfl,rfl,s9 _ _ g1 (npc h hh),by lia,by lia,(jJ (cT (by rw[aU];exact hd))).1,by unfold NV;rw[List.getElem?_map,hv];rfl,?_⟩
     refine hN _ _ ⟨fun k=>if k=h then (ls h).eraseIdx d else ls k,some (ls h)[d],rfl,aI.put (sc.trans s9) (cH h hh).1,hp9.put (npc h hh).symm,by rw[aF (cH h hh).2.symm];exact s9 _ _ hDc npD,by rw[aF (nFc h hh).symm];exact s9 _ _ hFc npF,(fun _ z=>by cases z),?_,fun k hk=>?_⟩
     ·obtain⟨q1,q2,q3,q4⟩:=pC (LI.nd h hh) hd
      rw[xN (by lia),fl]
      exact LI.step hi ho hh pf q1 q2 q3 q4
     dsimp only
     by_cases c:k=h
     ·subst c
      rw[if_pos rfl,aB,iS]
     ·rw[if_neg c,aF (rW nd (by lia) (by lia) c)]
      exact s9 _ _ (hls k hk) (npc k hk)
  ·rintro σ Hc ⟨ls,fs,⟨u,v,rfl⟩,sc,hpc,hDc,hFc,fl,hfs,LI,hls⟩
   refine⟨_,rfl,Fo,_,rfl,.inl ⟨SqL.of hFc,fun t ht=>?_⟩⟩
   have st':=aG (o:=.tup (fs.map oV)) ht
   rw[List.length_map] at fl hfs
   refine q t fs _ (sc.trans (aI.of st')) (hpc.same st') aB ?_
   rw[← fl,aCe] at LI
   refine LI.done fun j hj=>hfs j ?_ hj
   rcases Nat.lt_or_ge j st.length with c|c
   ·exact c
   ·exact absurd (by rw[List.getD_eq_getElem?_getD,List.getElem?_eq_none c];rfl) hj
end
end K12
namespace K12
open PySem L2 NetM
abbrev uS:Stmt:=top 3
abbrev sLed:Stmt:=top 2
abbrev zX:Stmt:=top 42
theorem fK:(["letter","net","homes","stand","handing"]:List Str).Nodup:=by decide +kernel
noncomputable def ledB(ts:Ts)(homes:List Nat)(st fs:List (Option Nat))(j:Nat):Bool:=match st.getD j none with
 |none=>false
 |some h=>decide (far ts h (homes.getD j 0)≤far ts ((fs.getD j none).getD 0) (homes.getD j 0))
noncomputable def ledL(ts:Ts)(homes:List Nat)(st fs:List (Option Nat))(i:Nat):List Nat:=(List.range i).filter (ledB ts homes st fs)
structure Goes(n:Nat)(homes:List Nat)(st fs:List (Option Nat)):Prop where
 l1:homes.length=st.length
 l2:fs.length=st.length
 l3:st.length≤16
 hs:∀j,j<st.length→homes.getD j 0<n
 non:∀j,st.getD j none=none→fs.getD j none=none
 out:∀j h,st.getD j none=some h→h<n∧∃y,fs.getD j none=some y∧y<n∧y≠h
theorem Hd.goes{n:Nat}{ts:Ts}{homes:List Nat}{st fs:List (Option Nat)}(F:Fine n ts)(S:Stnd n ts homes st)(d:Hd n ts st fs):Goes n homes st fs:=by
 refine⟨S.len,d.len,S.le,fun j hj=>S.hs _ ?_,d.non,fun j h e=>?_⟩
 ·rw[List.getD_eq_getElem?_getD,List.getElem?_eq_getElem (by rw[S.len];exact hj)];exact List.getElem_mem _
 ·have hj:j<st.length:=by
   rcases Nat.lt_or_ge j st.length with c|c
   ·exact c
   ·rw[List.getD_eq_getElem?_getD,List.getElem?_eq_none c] at e;cases e
  have hh:=S.ss h (by rw[← e,List.getD_eq_getElem?_getD,List.getElem?_eq_getElem hj];exact List.getElem_mem _)
  obtain⟨y,a,b⟩:=d.out j h e
  refine⟨hh,y,a,mH F hh b,fun z=>?_⟩
  have:=F.ne _ ((cU F hh).mp b)
  exact this (by show ci h=ci y;rw[z])
theorem rH{ts:Ts}{homes:List Nat}{st fs:List (Option Nat)}{i:Nat}:ledL ts homes st fs (i+1)=ledL ts homes st fs i++if ledB ts homes st fs i=true then [i] else []:=by
 unfold ledL
 rw[List.range_succ,List.filter_append]
 congr 1
 simp[List.filter_cons]
theorem uT{ts:Ts}{homes:List Nat}{st fs:List (Option Nat)}{i:Nat}:(ledL ts homes st fs i).length≤i:=Nat.le_trans (List.length_filter_le _ _) (by rw[List.length_range];exact Nat.le_refl _)
theorem jW{n:Nat}{ts:Ts}{a b:Nat}(h:b<n):(NV ((List.range n).map (far ts a)))[b]?=some (.int ((far ts a b:Nat):Int)):=by
 unfold NV
 rw[List.getElem?_map,List.getElem?_map,List.getElem?_range h];rfl
section
variable {P:Program} {w:World} {K:PySem.W.Frag} {mg:Str→Option Value} {base:Heap}
theorem qH:aZ ["net","homes","stand","handing","letter","house","goes"] ["net","homes","stand","handing","letter"] (aN uS):=⟨rfl,rfl,rfl,by decide +kernel,rfl,by decide +kernel,by decide +kernel⟩
def mP(C:Addr):Sp:=fun vs H Q _=>∃ (L:Addr→Prop) (p:Addr) (n:Nat) (ts:Ts) (ha:Addr) (homes:List Nat) (sa:Addr) (st:List (Option Nat)) (fa:Addr) (fs:List (Option Nat)) (j:Nat),vs=[.ref p,.ref ha,.ref sa,.ref fa,.int j]∧cQ C H L p n ts∧H ha=some (.tup (NV homes))∧H sa=some (.tup (st.map oV))∧H fa=some (.tup (fs.map oV))∧Goes n homes st fs∧j<st.length∧Q (.bl (ledB ts homes st fs j)) H
theorem aCi{f C:Addr}{fd:FuncData}(F:Fun K "is_led" "is_led" uS f fd)(B:Bl mg)(T:NT K mg C)(MF:MCal P w K mg base CX0 5 C "far" ["self","one","other"] (uA C)):FnOk P w K mg base CX0 6 f fd ["net","homes","stand","handing","letter"] (mP C):=by
 obtain⟨fF,fdF,mF,bF,GF⟩:=MF.ex
 refine F.ok qH (fun vs H Q E h=>?_) (fun cdv A outer s H vs Q E hr h=>?_)
 ·obtain⟨L,p,n,ts,ha,homes,sa,st,fa,fs,j,rfl,_⟩:=h
  rfl
 ·obtain⟨L,p,n,ts,ha,homes,sa,st,fa,fs,j,rfl,N,hha,hsa,hfa,G,hj,q⟩:=h
  refine⟨_,(aE (aO (i:=5) qH.nd rfl (Or.inl rfl) (aR cG (pv 2) (pv 4) (fun _ _=>rfl)))
   (aE (aO (i:=6) qH.nd rfl (Or.inl rfl) (aR cG (pv 3) (pv 4) (fun _ _=>rfl)))
   (aE (bR (PW.pt (nV (aV sD (pv 6) dQ (aX _)) (nU (aV dM (pv 6) (pv 5) (aX _))))) (aJ (bA jX)) bD)
   (aJ (bA (iB aCn (lX (pv 0) T.cl mF GF hr bF .nil aT (aA (pv 6) (aA (aR cG (pv 1) (pv 4) (fun _ _=>rfl)) aD))) (lX (pv 0) T.cl mF GF hr bF .nil aT (aA (pv 5) (aA (aR cG (pv 1) (pv 4) (fun _ _=>rfl)) aD))) (aX _))))))),?_⟩
  have l2:=G.l2
  have l1:=G.l1
  refine⟨_,rfl,_,rfl,sa,_,_,_,rfl,rfl,SqT.of hsa,aM (eT hj),?_⟩
  refine⟨_,rfl,_,rfl,fa,_,_,_,rfl,rfl,SqT.of hfa,aM (eT (by lia)),?_⟩
  obtain⟨dx,tl,ol,ds,hN,_⟩:=N.ob
  have hh:=cZ (xs:=homes) (j:=j) (by lia)
  unfold ledB at q
  cases ho:st.getD j none with
  |none=>
   rw[ho] at q
   rw[G.non j ho]
   exact⟨_,rfl,rfl,_,rfl,iteT (iteT q)⟩
  |some h=>
   obtain⟨hn,y,ey,hy,ne⟩:=G.out j h ho
   rw[ho] at q
   rw[ey] at q ⊢
   refine⟨_,rfl,rfl,_,rfl,kH rfl ⟨_,rfl,_,rfl,rfl,_,rfl,kH ?_ ?_⟩⟩
   ·exact decide_eq_false fun z=>by injection z with z;exact ne (Int.ofNat.inj z)
   refine⟨_,rfl,p,dx,_,rfl,hN,nfar _ _ _ _,_,rfl,_,rfl,_,rfl,ha,_,_,_,rfl,rfl,SqT.of hha,aM hh,L,p,n,ts,y,_,rfl,N,hy,G.hs j hj,?_⟩
   refine⟨_,rfl,p,dx,_,rfl,hN,nfar _ _ _ _,_,rfl,_,rfl,_,rfl,ha,_,_,_,rfl,rfl,SqT.of hha,aM hh,L,p,n,ts,h,_,rfl,N,hn,G.hs j hj,?_⟩
   refine⟨_,_,rfl,rfl,?_⟩
   show Q (.bl (decide (((far ts h (homes.getD j 0):Nat):Int)≤((far ts y (homes.getD j 0):Nat):Int)))) H
   rw[show decide (((far ts h (homes.getD j 0):Nat):Int)≤((far ts y (homes.getD j 0):Nat):Int))=decide (far ts h (homes.getD j 0)≤far ts ((some y).getD 0) (homes.getD j 0)) from decide_eq_decide.mpr (by rw[Option.getD_some];lia)]
   exact q
theorem aEY:aZ ["net","homes","stand","handing"] ["net","homes","stand","handing"] (aN sLed):=⟨rfl,rfl,rfl,by decide +kernel,rfl,by decide +kernel,by decide +kernel⟩
def zY(C:Addr):Sp:=fun vs H Q _=>∃ (L:Addr→Prop) (p:Addr) (n:Nat) (ts:Ts) (ha:Addr) (homes:List Nat) (sa:Addr) (st:List (Option Nat)) (fa:Addr) (fs:List (Option Nat)),vs=[.ref p,.ref ha,.ref sa,.ref fa]∧cQ C H L p n ts∧H ha=some (.tup (NV homes))∧H sa=some (.tup (st.map oV))∧H fa=some (.tup (fs.map oV))∧Goes n homes st fs∧∀r H',Same H H'→H r=none→H' r=some (.lst (NV (ledL ts homes st fs st.length)))→Q (.ref r) H'
theorem aEp{f C:Addr}{fd:FuncData}(F:Fun K "led" "led" sLed f fd)(B:Bl mg)(IL:Cal P w K mg base CX0 6 "is_led" ["net","homes","stand","handing","letter"] (mP C)):FnOk P w K mg base CX0 7 f fd ["net","homes","stand","handing"] (zY C):=by
 refine F.ok aEY (fun vs H Q E h=>?_) (fun cdv A outer s H vs Q E hr h=>?_)
 ·obtain⟨L,p,n,ts,ha,homes,sa,st,fa,fs,rfl,_⟩:=h
  rfl
 ·obtain⟨L,p,n,ts,ha,homes,sa,st,fa,fs,rfl,N,hha,hsa,hfa,G,q⟩:=h
  refine'⟨_,(aJ (bA ?c1)),?_⟩
  case c1=>
   refine' bV (g:=(bG 0)) (tt:=(tB (lW (mP C) [] E0 (bK (tVar 1) (bK (tVar 2) (bK (tVar 3) (bK (tVar 4) (bK (tVar 0) tNil)))))))) (te:=(tVar 0)) (NB:=["letter","net","homes","stand","handing"]) (src:=[none,some 0,some 1,some 2,some 3]) (bH (by kernel_rfl)) rfl (bN rfl B.range (aA (aS aW (by rfl) B.len PySem.boot_len (aA (pv 1) aD)) aD)) ?g ?t ?e
   case g=>exact fun cl C s₃ H₃ fp=>(aL (i:=0) fK rfl (Or.inl rfl) (Or.inr rfl))
   case t=>exact fun cl C s₃ H₃ fp=>dG (eU (aQ IL hr aT (aA (pv 1) (aA (pv 2) (aA (pv 3) (aA (pv 4) (aA (pv 0) aD)))))))
   case e=>exact fun cl C s₃ H₃ fp=>(pv 0)
  have l3:=G.l3
  refine⟨_,rfl,ha,_,rfl,.inr (SqT.of hha),_,rfl,by lia,by rw[aU,G.l1];lia,fun D1 hD1=>?_⟩
  rw[aU,G.l1]
  refine pX (lo:=0) (n:=st.length) (ledB ts homes st fs) (fun σ=>∃b,σ=[b,some (.ref p),some (.ref ha),some (.ref sa),some (.ref fa)]) hD1 (by lia) ⟨_,rfl⟩ ?_ ?_
  ·rintro j σ H5 Kt Kf hj ⟨b',rfl⟩ sm5 kt kf
   rw[Int.zero_add] at kt ⊢
   refine⟨_,rfl,_,rfl,_,rfl,_,rfl,_,rfl,L,p,n,ts,ha,homes,sa,st,fa,fs,j,rfl,N.same sm5,sm5 _ _ hha,sm5 _ _ hsa,sm5 _ _ hfa,G,hj,_,rfl,?_⟩
   cases hk:ledB ts homes st fs j with
   |false=>exact iteF (kf _ _ ⟨_,rfl⟩ (Same.refl _) hk)
   |true=>exact iteT ⟨_,rfl,kt _ _ ⟨_,rfl⟩ (Same.refl _) hk⟩
  ·intro H5 s5 hD5
   refine q D1 H5 s5 hD1 ?_
   rw[hD5]
   exact congrArg (fun l=>some (HO.lst l)) (List.map_congr_left fun x _=>by rw[Int.zero_add])
theorem lS:aZ ["_law_far_here","_law_homes","_law_stand_here","_law_handing","_law_found","_law_i","_law_house","_law_home"] ["_law_far_here","_law_homes","_law_stand_here","_law_handing"] (aN zX):=⟨rfl,rfl,rfl,by decide +kernel,rfl,by decide +kernel,by decide +kernel⟩
def uU:Sp:=fun vs H Q _=>∃ (L:Addr→Prop) (fr:Addr) (n:Nat) (ts:Ts) (ha:Addr) (homes:List Nat) (sa:Addr) (st:List (Option Nat)) (fa:Addr) (fs:List (Option Nat)),vs=[.ref fr,.ref ha,.ref sa,.ref fa]∧bL H L fr n (fun h=>(List.range n).map (far ts h))∧H ha=some (.tup (NV homes))∧H sa=some (.tup (st.map oV))∧H fa=some (.tup (fs.map oV))∧Goes n homes st fs∧∀r H',Same H H'→H r=none→H' r=some (.lst (NV (ledL ts homes st fs st.length)))→Q (.ref r) H'
theorem aDC{f:Addr}{fd:FuncData}(F:Fun K "_law_led" "_law_led" zX f fd)(B:Bl mg)(hEn:mg "enumerate"=none):FnOk P w K mg base CX0 1 f fd ["_law_far_here","_law_homes","_law_stand_here","_law_handing"] uU:=by
 refine F.ok lS (fun vs H Q E h=>?_) (fun cdv A outer s H vs Q E hr h=>?_)
 ·obtain⟨L,fr,n,ts,ha,homes,sa,st,fa,fs,rfl,_⟩:=h
  rfl
 ·obtain⟨L,fr,n,ts,ha,homes,sa,st,fa,fs,rfl,R,hha,hsa,hfa,G,q⟩:=h
  refine⟨_,(aE (aO (i:=4) lS.nd rfl (Or.inl rfl) (bU aD))
   (aE (cA PassesOwn.never rfl (aBJ rfl hEn (aA (pv 2) aD)) (dR (n:=2) rfl (bC (aL (i:=5) lS.nd rfl (Or.inl rfl)) (bC (aL (i:=6) lS.nd rfl (Or.inl rfl)) cR)))
    (aE (aO (i:=7) lS.nd rfl (Or.inl rfl) (aR cG (pv 1) (pv 5) (fun _ _=>rfl)))
    (aJ (bR (PW.pt (iI (aV lU (pv 6) dQ (aX _)) (iA (aV aCn (aR aP (aR aP (pv 0) (aR cG (pv 3) (pv 5) (fun _ _=>rfl)) (fun _ _=>rfl)) (pv 7) (fun _ _=>rfl)) (aR aP (aR aP (pv 0) (pv 6) (fun _ _=>rfl)) (pv 7) (fun _ _=>rfl)) (aX _))))) (aJ (bS (cX PySem.F.plainAttrs_list PySem.F.slot_list_append PySem.F.type_list_append cP (pv 4) (aA (pv 5) aD)))) bD))))
   (aJ (bA (pv 4))))),?_⟩
  have l1:=G.l1
  have l2:=G.l2
  have l3:=G.l3
  obtain⟨bs,b1,b2,b3⟩:=R
  refine⟨by show 0≤sizeLine;decide,fun Fo hFo=>?_⟩
  have sF:=aG (o:=.lst []) hFo
  refine⟨_,rfl,sa,_,rfl,SqT.of (sF _ _ hsa),?_⟩
  refine aAO (K:=K) (xs:=st.map oV) (fun i σ Hc=>(∃u v x,σ=[some (.ref fr),some (.ref ha),some (.ref sa),some (.ref fa),some (.ref Fo),u,v,x])∧Same H Hc∧Hc Fo=some (.lst (NV (ledL ts homes st fs i)))) ⟨⟨_,_,_,rfl⟩,sF,aB⟩ (fun i σ Hc _ z=>SqT.of (z.2.1 _ _ hsa)) ?_ ?_
  ·rintro i x pp σ Hc hx ⟨⟨u,v,x7,rfl⟩,sc,hFc⟩ hpp
   have hi:i<st.length:=by have:=(List.getElem?_eq_some_iff.mp hx).1;rwa [List.length_map] at this
   rw[eT hi] at hx
   obtain rfl:=Option.some.inj hx
   have sp:=aG (o:=.tup [.int (i:Int),oV (st.getD i none)]) hpp
   refine⟨pp,_,rfl,SqT.of aB,rfl,_,_,rfl,_,_,rfl,rfl,?_⟩
   have s2:=sc.trans sp
   have hF2:=sp _ _ hFc
   generalize upd Hc pp _=H2 at *
   have hh:=cZ (xs:=homes) (j:=i) (by lia)
   refine⟨_,rfl,_,rfl,ha,_,_,_,rfl,rfl,SqT.of (s2 _ _ hha),aM hh,?_⟩
   have ll:=uT (ts:=ts) (homes:=homes) (st:=st) (fs:=fs) (i:=i)
   have nxt:∀x7,ledB ts homes st fs i=false→(∃u v x,[some (V.ref fr),some (.ref ha),some (.ref sa),some (.ref fa),some (.ref Fo),some (.int (i:Int)),some (oV (st.getD i none)),x7]=[some (.ref fr),some (.ref ha),some (.ref sa),some (.ref fa),some (.ref Fo),u,v,x])∧Same H H2∧H2 Fo=some (.lst (NV (ledL ts homes st fs (i+1)))):=fun x7 hb=>⟨⟨_,_,_,rfl⟩,s2,by rw[rH,hb,if_neg (by decide),List.append_nil];exact hF2⟩
   cases ho:st.getD i none with
   |none=>
    rw[ho] at nxt
    exact⟨_,rfl,rfl,_,rfl,iteF (iteF (nxt _ (by unfold ledB;rw[ho])))⟩
   |some h=>
    obtain⟨hn,y,ey,hy,ne⟩:=G.out i h ho
    have hm:=G.hs i hi
    have of_:(fs.map oV)[i]?=some (.int (y:Int)):=by rw[eT (by lia),ey];rfl
    have gb:∀k,k<n→(bs.map V.ref)[k]?=some (.ref (bs.getD k 0)):=fun k hk=>fO (by rw[b3.1];exact hk)
    refine⟨_,rfl,rfl,_,rfl,iX rfl ⟨_,rfl,_,rfl,_,rfl,fa,_,_,_,rfl,rfl,SqT.of (s2 _ _ hfa),aM of_,fr,_,_,_,rfl,rfl,SqL.of (s2 _ _ b1),aM (gb y hy),_,rfl,_,_,_,_,rfl,rfl,SqL.of (s2 _ _ (b3.2 y hy)),aM (jW hm),?_⟩⟩
    refine⟨_,rfl,_,rfl,fr,_,_,_,rfl,rfl,SqL.of (s2 _ _ b1),aM (gb h hn),_,rfl,_,_,_,_,rfl,rfl,SqL.of (s2 _ _ (b3.2 h hn)),aM (jW hm),_,_,rfl,rfl,_,rfl,?_⟩
    have eb:ledB ts homes st fs i=decide (((far ts h (homes.getD i 0):Nat):Int)≤((far ts y (homes.getD i 0):Nat):Int)):=by
     unfold ledB
     rw[ho,ey]
     exact decide_eq_decide.mpr (by rw[Option.getD_some];lia)
    rw[ho] at nxt
    rw[← eb]
    cases hk:ledB ts homes st fs i with
    |false=>exact iteF (nxt _ hk)
    |true=>
     refine iteT ⟨_,rfl,.inl ⟨rfl,_,SqL.of hF2⟩,_,rfl,Fo,_,_,rfl,rfl,hF2,by rw[aU];exact Nat.lt_of_lt_of_le (show _<33 by lia) (by decide),?_⟩
     exact⟨⟨_,_,_,rfl⟩,bE s2 hFo,by rw[aB,rH,hk,if_pos rfl,gN]⟩
  ·rintro σ Hc ⟨⟨u,v,x7,rfl⟩,sc,hFc⟩
   rw[List.length_map] at hFc
   exact⟨_,rfl,q Fo Hc sc hFo hFc⟩
end
end K12
namespace K12
open PySem L2 NetM
abbrev sRL:Stmt:=top 44
abbrev uV:Stmt:=top 43
theorem aDD{K:PySem.W.Frag}:PySem.W.kitOne K (.type "list") (.type "list")=some true:=by kernel_rfl
theorem Fine.two{n:Nat}{ts:Ts}{a b:Nat}(F:Fine n ts)(ha:a<n)(hb:b<n)(hab:a≠b)(h1:b∉outN n ts a)(h2:a∉outN n ts b)(d1:(outN n ts a).length≤7)(d2:(outN n ts b).length≤7):Fine n (ts++[(ci a,ci b),(ci b,ci a)]):=by
 have e:cyc2 [a,b]=[(ci a,ci b),(ci b,ci a)]:=by simp[cyc2,List.range_succ]
 rw[← e]
 refine F.round (by simp[hab]) (fun x hx=>?_) (Nat.le_refl _) (fun x hx=>?_) (fun t ht=>?_)
 ·simp at hx;rcases hx with rfl|rfl <;> assumption
 ·simp at hx
  rcases hx with rfl|rfl
  ·rw[← nR F ha];exact d1
  ·rw[← nR F hb];exact d2
 ·rw[e] at ht
  simp at ht
  rcases ht with rfl|rfl
  ·exact fun z=>h1 ((cU F ha).mpr z)
  ·exact fun z=>h2 ((cU F hb).mpr z)
theorem aCA{xs:List Nat}{x:Nat}:inV (.int (x:Int)) (NV xs)=decide (x∈xs):=by
 rw[Bool.eq_iff_iff]
 unfold inV NV
 rw[List.any_map,List.any_eq_true,decide_eq_true_eq]
 constructor
 ·rintro⟨y,hy,e⟩
  have e':decide ((y:Int)=(x:Int))=true:=e
  have:=of_decide_eq_true e'
  obtain rfl:y=x:=by lia
  exact hy
 ·intro h
  exact⟨x,h,show decide ((x:Int)=(x:Int))=true from decide_eq_true rfl⟩
section
variable {P:Program} {w:World} {K:PySem.W.Frag} {mg:Str→Option Value} {base:Heap}
theorem scRL:aZ ["_law_net_here","_law_far_here","_law_homes","_law_stand_here","_law_handing","_law_due","_law_turn","_law_found"] ["_law_net_here","_law_far_here","_law_homes","_law_stand_here","_law_handing"] (aN sRL):=⟨rfl,rfl,rfl,by decide +kernel,rfl,by decide +kernel,by decide +kernel⟩
def spRL(C:Addr):Sp:=fun vs H Q _=>∃ (L L':Addr→Prop) (p:Addr) (n:Nat) (ts:Ts) (fr ha:Addr) (homes:List Nat) (sa:Addr) (st:List (Option Nat)) (fa:Addr) (fs:List (Option Nat)),vs=[.ref p,.ref fr,.ref ha,.ref sa,.ref fa]∧cQ C H L p n ts∧bL H L' fr n (fun h=>(List.range n).map (far ts h))∧H ha=some (.tup (NV homes))∧H sa=some (.tup (st.map oV))∧H fa=some (.tup (fs.map oV))∧Goes n homes st fs∧∀H',Same H H'→Q (.bl true) H'
theorem aEZ{f C:Addr}{fd:FuncData}(F:Fun K "_law_right_led" "_law_right_led" sRL f fd)(B:Bl mg)(LL:Cal P w K mg base CX0 1 "_law_led" ["_law_far_here","_law_homes","_law_stand_here","_law_handing"] uU)(LE:Cal P w K mg base CX0 7 "led" ["net","homes","stand","handing"] (zY C)):FnOk P w K mg base CX0 8 f fd ["_law_net_here","_law_far_here","_law_homes","_law_stand_here","_law_handing"] (spRL C):=by
 refine F.ok scRL (fun vs H Q E h=>?_) (fun cdv A outer s H vs Q E hr h=>?_)
 ·obtain⟨L,L',p,n,ts,fr,ha,homes,sa,st,fa,fs,rfl,_⟩:=h
  rfl
 ·obtain⟨L,L',p,n,ts,fr,ha,homes,sa,st,fa,fs,rfl,N,R,hha,hsa,hfa,G,q⟩:=h
  have h1:Room 1 _:=hr.mono (by decide)
  refine⟨_,(aE (aO (i:=5) scRL.nd rfl (Or.inl rfl) (aQ LL h1 aT (aA (pv 1) (aA (pv 2) (aA (pv 3) (aA (pv 4) aD))))))
   (aE (cA PassesOwn.never rfl (bN rfl B.range (aA aK aD)) (aL (i:=6) scRL.nd rfl (Or.inl rfl))
    (aE (aO (i:=7) scRL.nd rfl (Or.inl rfl) (aQ LE hr aT (aA (pv 0) (aA (pv 2) (aA (pv 3) (aA (pv 4) aD))))))
    (aE (bR (PW.pt (nV (gZ (eU (aS iK (by rfl) B.isi PyProof.Rows.boot_isinstance (aA (pv 7) (aA (jG (v:=.ty "list") rfl B.lst PyProof.Rows.boot_list rfl) aD))))) (nU (aV (aDk (d:=0) hr.u) (pv 7) (pv 5) (aX _))))) (aJ (bA jX)) bD)
    (aJ (bS (cX PySem.F.plainAttrs_list PySem.F.slot_list_append PySem.F.type_list_append cP (pv 7) (aA aK aD)))))))
   (aJ (bA jX)))),?_⟩
  refine⟨_,rfl,_,rfl,_,rfl,_,rfl,L',fr,n,ts,ha,homes,sa,st,fa,fs,rfl,R,hha,hsa,hfa,G,fun D H1 s1 fD hD=>?_⟩
  refine⟨2,rfl,by decide,by decide,cI (n:=2) (lo:=0) (fun i σ Hc=>(∃u v,σ=[some (.ref p),some (.ref fr),some (.ref ha),some (.ref sa),some (.ref fa),some (.ref D),u,v])∧Same H Hc∧Hc D=some (.lst (NV (ledL ts homes st fs st.length)))) ⟨⟨_,_,rfl⟩,s1,hD⟩ ?_ ?_⟩
  ·rintro i σ Hc hi ⟨⟨u,v,rfl⟩,sc,hDc⟩
   refine⟨_,rfl,_,rfl,_,rfl,_,rfl,L,p,n,ts,ha,homes,sa,st,fa,fs,rfl,N.same sc,sc _ _ hha,sc _ _ hsa,sc _ _ hfa,G,fun r H2 s2 fr2 hr2=>?_⟩
   have hD2:=s2 _ _ hDc
   have ll:=uT (ts:=ts) (homes:=homes) (st:=st) (fs:=fs) (i:=st.length)
   have l3:=G.l3
   refine⟨_,rfl,_,_,_,.type "list",true,rfl,⟨rfl,aDD⟩,.of (.lst hr2),_,rfl,iteF ?_⟩
   refine⟨_,rfl,_,rfl,r,D,_,_,rfl,rfl,SqL.of hr2,SqL.of hD2,rfl,fun i h1 _=>?_,_,rfl,iteF ?_⟩
   ·rw[aU] at h1
    have e:(NV (ledL ts homes st fs st.length)).getD i .non=.int (((ledL ts homes st fs st.length).getD i 0:Nat):Int):=by rw[List.getD_eq_getElem?_getD,cZ h1];rfl
    rw[e];exact aDj
   refine⟨_,rfl,.inl ⟨rfl,_,SqL.of hr2⟩,r,_,_,rfl,rfl,hr2,by rw[aU];exact Nat.lt_of_lt_of_le (show _<33 by lia) (by decide),?_⟩
   exact⟨⟨_,_,rfl⟩,bE (sc.trans s2) (sc.free fr2),by rw[aF (aH hDc fr2)];exact hD2⟩
  ·rintro σ Hc ⟨⟨u,v,rfl⟩,sc,hDc⟩
   exact q Hc sc
theorem xO:aZ ["_law_pot_here","_law_n","_law_ties","_law_outs_here","_law_one","_law_other"] ["_law_pot_here","_law_n","_law_ties","_law_outs_here"] (aN uV):=⟨rfl,rfl,rfl,by decide +kernel,rfl,by decide +kernel,by decide +kernel⟩
def qI:Sp:=fun vs H Q _=>∃ (p:Addr) (n:Nat) (r:Addr) (zs:Zs) (o:Addr) (L:Addr→Prop),vs=[.ref p,.int n,.ref r,.ref o]∧bB H p∧H r=some (.lst (zr zs))∧r≠p∧PO H zs∧Fine n (zp zs)∧bL H L o n (outN n (zp zs))∧L o∧¬ L p∧
 ∀ (r':Addr) (zs':Zs) (H':Hp),aI p H H'→bB H' p→H r'=none→H' r'=some (.lst (zr zs'))→PO H' zs'→Fine n (zp zs')→Q (.ref r') H'
theorem aCj{f:Addr}{fd:FuncData}(F:Fun K "_law_wider" "_law_wider" uV f fd)(B:Bl mg)(D:Cal P w K mg base CX0 1 "_law_take" ["_law_pot_here","_law_many"] dZ):FnOk P w K mg base CX0 2 f fd ["_law_pot_here","_law_n","_law_ties","_law_outs_here"] qI:=by
 refine F.ok xO (fun vs H Q E h=>?_) (fun cdv A outer s H vs Q E hr h=>?_)
 ·obtain⟨p,n,r,zs,o,L,rfl,_⟩:=h
  rfl
 ·obtain⟨p,n,r,zs,o,L,rfl,hp,hr0,nr,po,Fi,R0,hLo,hLp,q⟩:=h
  refine⟨_,(aE (rZ (i:=4) (j:=5) rfl xO.nd rfl rfl (by decide) rfl rfl (aA (aQ D hr aT (aA (pv 0) (aA (pv 1) aD))) (aA (aQ D hr aT (aA (pv 0) (aA (pv 1) aD))) aD)) (by rfl))
   (aE (bR (PW.pt (nV (aV dM (pv 4) (pv 5) (aX _)) (nV (aV iV (pv 5) (aR aP (pv 3) (pv 4) (fun _ _=>rfl)) rfl) (nU (aV iV (pv 4) (aR aP (pv 3) (pv 5) (fun _ _=>rfl)) rfl))))) (aJ (bA (cD eV (by rfl) B.lst PyProof.Rows.boot_list (aA (pv 2) aD)))) bD)
   (aE (bR (aV nY (aS (iU rfl) (by rfl) B.max PyProof.Rows.boot_max (aA (aS aW (by rfl) B.len PySem.boot_len (aA (aR aP (pv 3) (pv 4) (fun _ _=>rfl)) aD)) (aA (aS aW (by rfl) B.len PySem.boot_len (aA (aR aP (pv 3) (pv 5) (fun _ _=>rfl)) aD)) aD))) aK (aX _)) (aJ (bA (cD eV (by rfl) B.lst PyProof.Rows.boot_list (aA (pv 2) aD)))) bD)
   (aJ (bA (aY aAp (pv 2) (bU (aA (bT (aA (pv 4) (aA (pv 5) aD))) (aA (bT (aA (pv 5) (aA (pv 4) aD))) aD))))))))),?_⟩
  have n1:=Fi.n1
  have n2:=Fi.n2
  refine⟨_,rfl,_,rfl,p,n,rfl,by lia,by lia,hp,fun a H1 ha s1 hp1=>⟨_,rfl,_,rfl,p,n,rfl,by lia,by lia,hp1,fun b H2 hb s2 hp2=>⟨_,_,rfl,?_⟩⟩⟩
  have sH:=s1.trans s2
  have hr2:=sH _ _ hr0 nr
  have po2:=po.sameE sH hp
  have R2:bL H2 L o n (outN n (zp zs)):=R0.keep hLo fun b o l e=>sH b o e fun z=>hLp (z ▸ l)
  obtain⟨bs,b1,b2,b3⟩:=R2
  have gb:∀k,k<n→(bs.map V.ref)[k]?=some (.ref (bs.getD k 0)):=fun k hk=>fO (by rw[b3.1];exact hk)
  have cpy:∀t,H2 t=none→Q (.ref t) (upd H2 t (.lst (zr zs))):=fun t ht=>q t zs _ (sH.trans (aI.of (aG ht))) (hp2.same (aG ht)) (sH.free hp2.full ht) aB (po2.putN ht) Fi
  have cp:∀ (D:Ends),D.rt=Q→tRet (tCB (fun xs H Q=>∃p ys,xs=[V.ref p]∧(SqL K H p ys∨SqT K H p ys)∧∀l,H l=none→Q (.ref l) (upd H l (.lst ys))) (bK (tVar 2) tNil)) D [some (.ref p),some (.int (n:Int)),some (.ref r),some (.ref o),some (.int (a:Int)),some (.int (b:Int))] H2:=fun D e=>by
   refine⟨_,rfl,r,_,rfl,.inl (SqL.of hr2),fun t ht=>?_⟩
   rw[e]
   exact cpy t ht
  refine⟨_,rfl,_,rfl,rfl,_,rfl,ite2 (fun c=>iteT (cp _ rfl)) (fun c=>?_)⟩
  have hab:a≠b:=fun z=>c (by rw[z];exact decide_eq_true rfl)
  refine⟨_,rfl,_,rfl,_,rfl,o,_,_,_,rfl,rfl,SqL.of b1,aM (gb a ha),_,_,rfl,.inl (SqL.of (b3.2 a ha)),rfl,xK,_,rfl,ite2 (fun c1=>iteT (cp _ rfl)) (fun c1=>?_)⟩
  refine⟨_,rfl,_,rfl,_,rfl,o,_,_,_,rfl,rfl,SqL.of b1,aM (gb b hb),_,_,rfl,.inl (SqL.of (b3.2 b hb)),rfl,xK,_,rfl,ite2 (fun c2=>cp _ rfl) (fun c2=>?_)⟩
  have m1:b∉outN n (zp zs) a:=fun z=>c1 (by show (if false=true then _ else inV _ _)=true;rw[if_neg (by decide),aCA];exact decide_eq_true z)
  have m2:a∉outN n (zp zs) b:=fun z=>c2 (by show (if false=true then _ else inV _ _)=true;rw[if_neg (by decide),aCA];exact decide_eq_true z)
  refine⟨_,rfl,_,rfl,o,_,_,_,rfl,rfl,SqL.of b1,aM (gb a ha),_,_,rfl,.inl (SqL.of (b3.2 a ha)),_,rfl,_,rfl,o,_,_,_,rfl,rfl,SqL.of b1,aM (gb b hb),_,_,rfl,.inl (SqL.of (b3.2 b hb)),_,_,rfl,_,_,rfl,rfl,_,rfl,ite2 (fun c3=>cp _ rfl) (fun c3=>?_)⟩
  rw[aU,aU] at c3
  have hd:(outN n (zp zs) a).length≤7∧(outN n (zp zs) b).length≤7:=by
   have c3':=fun z=>c3 (decide_eq_true z)
   split at c3' <;> constructor <;> lia
  refine⟨_,rfl,_,rfl,_,rfl,by show 2≤sizeLine;decide,fun t1 ht1=>⟨_,rfl,_,rfl,by show 2≤sizeLine;decide,fun t2 ht2=>⟨by show 2≤sizeLine;decide,fun l hl=>?_⟩⟩⟩
  have e1:=aG (o:=.tup [.int (a:Int),.int (b:Int)]) ht1
  have e2:=aG (o:=.tup [.int (b:Int),.int (a:Int)]) ht2
  have e3:=aG (o:=.lst [.ref t1,.ref t2]) hl
  have sT:=(e1.trans e2).trans e3
  have g1:=e3 _ _ (e2 _ _ (aB (H:=H2) (a:=t1) (o:=.tup [.int (a:Int),.int (b:Int)])))
  have g2:=e3 _ _ (aB (H:=upd H2 t1 (.tup [.int (a:Int),.int (b:Int)])) (a:=t2) (o:=.tup [.int (b:Int),.int (a:Int)]))
  have gl:(upd (upd (upd H2 t1 (.tup [.int (a:Int),.int (b:Int)])) t2 (.tup [.int (b:Int),.int (a:Int)])) l (.lst [.ref t1,.ref t2])) l=some (.lst [.ref t1,.ref t2]):=aB
  generalize upd (upd (upd H2 t1 _) t2 _) l _=H3 at *
  have zl:zs.length≤1000:=by have:=rD (fun t=>t.1) (zp zs) n (fun t ht=>(Fi.rg t ht).1) Fi.most;rw[bJ] at this;lia
  refine⟨r,l,_,_,rfl,rfl,sT _ _ hr2,gl,by rw[cF];exact Nat.le_trans (show _≤1002 from Nat.add_le_add_right zl 2) (by decide),fun t ht=>?_⟩
  have et:=aG (o:=.lst (zr zs++[.ref t1,.ref t2])) ht
  refine q t (zs++[(t1,(ci a,ci b)),(t2,(ci b,ci a))]) _ (sH.trans (aI.of (sT.trans et))) (hp2.same (sT.trans et)) (sH.free hp2.full (sT.free ht)) (by rw[aB,dE];rfl) ?_ ?_
  ·refine((po2.same (sT.trans et)).append (b:=[(t1,(ci a,ci b)),(t2,(ci b,ci a))]) fun z hz=>?_)
   rcases List.mem_cons.mp hz with rfl|hz
   ·exact et _ _ g1
   ·rw[List.mem_singleton.mp hz];exact et _ _ g2
  ·rw[dF]
   exact Fine.two Fi ha hb hab m1 m2 hd.1 hd.2
end
end K12
namespace K12
open PySem L2 NetM
abbrev uW:Stmt:=top 40
theorem pD:(["_law_i","_law_stand_here"]:List Str).Nodup:=by decide +kernel
theorem gI:(["_law_there","_law_far_here","_law_homes","_law_i","_law_near"]:List Str).Nodup:=by decide +kernel
theorem mQ{K:PySem.W.Frag}{a D:Addr}{os:List Nat}{g:TG}{tt:TT}{te:TE}{fin:Hp→Prop}{σB:St}{H0:Hp}(c:Nat→Bool)(shape:St→Prop)(ha:H0 a=some (.lst (NV os)))(hD:H0 D=none)(hn:os.length≤1000)(h0:shape σB)(hs:∀x σ H (Kt:V→St→Hp→Prop) (Kf:St→Hp→Prop),x∈os→shape σ→Same H0 H→(∀σ2 H2,shape σ2→Same H H2→c x=true→Kt (.int (x:Nat)) σ2 H2)→(∀σ2 H2,shape σ2→Same H H2→c x=false→Kf σ2 H2)→
   g (.int (x:Nat)) σ H fun σ2 H2=>tt σ2 H2 fun b H3=>if b=true then te σ2 H3 fun v H4=>Kt v σ2 H4 else Kf σ2 H3)(hd:∀H,Same H0 H→H D=some (.lst (NV (os.filter c)))→fin H):dN (Itl K a) g tt te D fin σB (upd H0 D (.lst [])):=by
 refine cJ (xs:=NV os) (fun i ys σ H=>shape σ∧Same H0 H∧H D=some (.lst ys)∧ys=NV ((os.take i).filter c)) ⟨h0,aG hD,aB,rfl⟩ (fun i ys σ H _ z=>SqL.of (z.2.1 _ _ ha)) ?_ ?_
 ·rintro i x ys σ H Kt Kf hx ⟨sh,sm,hDl,rfl⟩ kt kf
  obtain⟨y,hy,rfl⟩:=kF hx
  have tk:os.take (i+1)=os.take i++[y]:=by rw[List.take_add_one,hy];rfl
  refine hs y σ H Kt Kf (List.mem_of_getElem? hy) sh sm (fun σ2 H2 sh2 s2 e=>?_) (fun σ2 H2 sh2 s2 e=>?_)
  ·refine kt _ _ _ (s2 _ _ hDl) ?_ ⟨sh2,bE (sm.trans s2) hD,aB,?_⟩
   ·rw[aU]
    exact Nat.lt_of_le_of_lt (Nat.le_trans (List.length_filter_le _ _) (List.length_take_le' _ _)) (Nat.lt_of_le_of_lt hn (by decide))
   ·rw[tk,List.filter_append,show [y].filter c=[y] by simp[List.filter_cons,e],gN]
  ·refine kf _ _ ⟨sh2,sm.trans s2,s2 _ _ hDl,?_⟩
   rw[tk,List.filter_append,show [y].filter c=[] by simp[List.filter_cons,e],List.append_nil]
 ·rintro ys σ H ⟨_,sm,hDl,rfl⟩
  rw[aU,List.take_length] at hDl
  exact hd H sm hDl
theorem aBo{α β:Type}{f:α→β}:∀ {l:List α} {k:Nat},(l.eraseIdx k).map f=(l.map f).eraseIdx k
 |[],_=>rfl
 |x::l,0=>rfl
 |x::l,k+1=>congrArg (f x::·) (aBo (l:=l) (k:=k))
theorem dU{os:List Nat}{k j:Nat}(h:os[k]?=some j):os.take (k+1)=os.take k++[j]:=by rw[List.take_add_one,h];rfl
theorem aCB{xs:List Nat}{y:Nat}(hy:y∈xs):∃k,k<xs.length∧xs[k]?=some y∧(((xs.map fun (x:Nat)=>(x:Int)).eraseIdx ((xs.map fun (x:Nat)=>(x:Int)).idxOf (y:Int))).map V.int)=NV (xs.eraseIdx k):=by
 have hm:(y:Int)∈xs.map fun (x:Nat)=>(x:Int):=List.mem_map.mpr ⟨y,hy,rfl⟩
 have hl:=List.idxOf_lt_length_iff.mpr hm
 have hg:=List.getElem_idxOf hl
 generalize (xs.map fun (x:Nat)=>(x:Int)).idxOf (y:Int)=k at *
 have hl':k<xs.length:=by rwa [List.length_map] at hl
 refine⟨k,hl',?_,?_⟩
 ·rw[List.getElem_map] at hg
  rw[List.getElem?_eq_getElem hl',Int.ofNat.inj hg]
 ·rw[← iS]
  rw[show NV xs=(xs.map fun (x:Nat)=>(x:Int)).map V.int by unfold NV;rw[List.map_map];rfl]
  exact aBo
theorem uX{fs:List (Option Nat)}{i:Nat}{o:Option Nat}:(fs.map oV).set i (oV o)=(fs.set i o).map oV:=(List.map_set).symm
section
variable {P:Program} {w:World} {K:PySem.W.Frag} {mg:Str→Option Value} {base:Heap}
theorem fV:aZ ["_law_pot_here","_law_outs_here","_law_far_here","_law_homes","_law_stand_here","_law_left","_law_found","_law_order_here","_law_i","_law_near","_law_good"] ["_law_pot_here","_law_outs_here","_law_far_here","_law_homes","_law_stand_here"] (aN uW):=⟨rfl,rfl,rfl,by decide +kernel,rfl,by decide +kernel,by decide +kernel⟩
def iG:Sp:=fun vs H Q _=>∃ (p r fr:Addr) (n:Nat) (ts:Ts) (L L':Addr→Prop) (ha sa:Addr) (homes:List Nat) (st:List (Option Nat)),vs=[.ref p,.ref r,.ref fr,.ref ha,.ref sa]∧Fine n ts∧bB H p∧bL H L r n (outN n ts)∧bL H L' fr n (fun h=>(List.range n).map (far ts h))∧L' fr∧¬ L' p∧H ha=some (.tup (NV homes))∧H sa=some (.tup (st.map oV))∧Stnd n ts homes st∧
 ∀ (t:Addr) (fs:List (Option Nat)) (H':Hp),aI p H H'→bB H' p→H' t=some (.tup (fs.map oV))→Hd n ts st fs→Q (.ref t) H'
theorem aCk{f:Addr}{fd:FuncData}(F:Fun K "_law_eager" "_law_eager" uW f fd)(B:Bl mg)(D:Cal P w K mg base CX0 1 "_law_take" ["_law_pot_here","_law_many"] dZ)(OR:Cal P w K mg base CX0 2 "_law_order" ["_law_pot_here","_law_many"] iE):FnOk P w K mg base CX0 3 f fd ["_law_pot_here","_law_outs_here","_law_far_here","_law_homes","_law_stand_here"] iG:=by
 refine F.ok fV (fun vs H Q E h=>?_) (fun cdv A outer s H vs Q E hr h=>?_)
 ·obtain⟨p,r,fr,n,ts,L,L',ha,sa,homes,st,rfl,_⟩:=h
  rfl
 ·obtain⟨p,r,fr,n,ts,L,L',ha,sa,homes,st,rfl,Fi,hp,R0,RF,hLf,hLp,hha,hsa,SD,q⟩:=h
  have h1:Room 1 _:=hr.mono (by decide)
  have n1:=Fi.n1
  have n2:=Fi.n2
  refine'⟨_,(aE (cM (i:=5) (g:=(bG 0)) (te:=(tCB (fun xs H Q=>∃p ys,xs=[V.ref p]∧(SqL K H p ys∨SqT K H p ys)∧∀l,H l=none→Q (.ref l) (upd H l (.lst ys))) (bK (tVar 0) tNil))) (NB:=["_law_row"]) (src:=[none]) (bH (by kernel_rfl)) rfl (bP (pv 1)) ?g1 ?t1 ?e1 fV.nd rfl rfl rfl)
   (aE (aO (i:=6) fV.nd rfl (Or.inl rfl) (aY kT (bU (aA dQ aD)) (aS aW (by rfl) B.len PySem.boot_len (aA (pv 4) aD))))
   (aE (cM (i:=7) (g:=(bG 0)) (tt:=(fL (tOp (fun x y H Q=>y=.non∧Q (.bl (!decide (x=.non))) H) (tOp (rIxT K) (tVar 1) (tVar 0)) (tC .non)))) (te:=(tVar 0)) (NB:=["_law_i","_law_stand_here"]) (src:=[none,some 4]) (bH (by kernel_rfl)) rfl (bP (aQ OR hr aT (aA (pv 0) (aA (aS aW (by rfl) B.len PySem.boot_len (aA (pv 4) aD)) aD)))) ?g2 ?t2 ?e2 fV.nd rfl rfl rfl)
   (aE (cA PassesOwn.never rfl (bP (pv 7)) (aL (i:=8) fV.nd rfl (Or.inr rfl))
    (aE (aO (i:=9) fV.nd rfl (Or.inr rfl) (aR aP (aR aP (pv 2) (aR cG (pv 4) (pv 8) (fun _ _=>rfl)) (fun _ _=>rfl)) (aR cG (pv 3) (pv 8) (fun _ _=>rfl)) (fun _ _=>rfl)))
    (aE (cM (i:=10) (g:=(bG 0)) (tt:=(fL (tOp (rI0 fun i j=>.bl (decide (i<j))) (tOp (rIxL K) (tOp (rIxL K) (tVar 1) (tVar 0)) (tOp (rIxT K) (tVar 2) (tVar 3))) (tVar 4)))) (te:=(tVar 0)) (NB:=["_law_there","_law_far_here","_law_homes","_law_i","_law_near"]) (src:=[none,some 2,some 3,some 8,some 9]) (bH (by kernel_rfl)) rfl (bP (aR aP (pv 5) (aR cG (pv 4) (pv 8) (fun _ _=>rfl)) (fun _ _=>rfl))) ?g3 ?t3 ?e3 fV.nd rfl rfl rfl)
    (aJ (bR (aV (sZ (e:=eqV) hr.u) (pv 10) (bU aD) (aX _)) (aE (cK (aR aP (pv 10) (aQ D h1 aT (aA (pv 0) (aA (aS aW (by rfl) B.len PySem.boot_len (aA (pv 10) aD)) aD))) (fun _ _=>rfl)) (eI (pv 6) (pv 8) dA))
     (aJ (bS (cX PySem.F.plainAttrs_list PySem.F.slot_list_remove PySem.F.type_list_remove rA (aR aP (pv 5) (aR cG (pv 4) (pv 8) (fun _ _=>rfl)) (fun _ _=>rfl)) (aA (aR aP (pv 6) (pv 8) (fun _ _=>rfl)) aD))))) bD)))))
   (aE (cA PassesOwn.never rfl (bP (pv 7)) (aL (i:=8) fV.nd rfl (Or.inr rfl))
    (aJ (bR (aV sD (aR aP (pv 6) (pv 8) (fun _ _=>rfl)) dQ (aX _)) (aJ (cK (cX PySem.F.plainAttrs_list PySem.F.slot_list_pop PySem.F.type_list_pop nA (aR aP (pv 5) (aR cG (pv 4) (pv 8) (fun _ _=>rfl)) (fun _ _=>rfl)) (aA (aQ D h1 aT (aA (pv 0) (aA (aS aW (by rfl) B.len PySem.boot_len (aA (aR aP (pv 5) (aR cG (pv 4) (pv 8) (fun _ _=>rfl)) (fun _ _=>rfl)) aD)) aD))) aD)) (eI (pv 6) (pv 8) dA))) bD)))
   (aJ (bA (cD dO (by rfl) B.tup PyProof.Rows.boot_tuple (aA (pv 6) aD))))))))),?_⟩
  case g1=>exact fun cl C s₃ H₃ fp=>(aL (i:=0) uO rfl (Or.inl rfl) (Or.inr rfl))
  case t1=>exact fun cl C s₃ H₃ fp=>bZ
  case e1=>exact fun cl C s₃ H₃ fp=>(cD eV (by rfl) B.lst PyProof.Rows.boot_list (aA (pv 0) aD))
  case g2=>exact fun cl C s₃ H₃ fp=>(aL (i:=0) pD rfl (Or.inl rfl) (Or.inr rfl))
  case t2=>exact fun cl C s₃ H₃ fp=>dG (aV lU (aR cG (pv 1) (pv 0) (fun _ _=>rfl)) dQ (aX _))
  case e2=>exact fun cl C s₃ H₃ fp=>(pv 0)
  case g3=>exact fun cl C s₃ H₃ fp=>(aL (i:=0) gI rfl (Or.inl rfl) (Or.inr rfl))
  case t3=>exact fun cl C s₃ H₃ fp=>dG (aV hJ (aR aP (aR aP (pv 1) (pv 0) (fun _ _=>rfl)) (aR cG (pv 2) (pv 3) (fun _ _=>rfl)) (fun _ _=>rfl)) (pv 4) (aX _))
  case e3=>exact fun cl C s₃ H₃ fp=>(pv 0)
  obtain⟨bs,b1,b2,b3⟩:=R0
  have bl:bs.length=n:=b3.1
  refine⟨_,rfl,r,rfl,⟨_,SqL.of b1⟩,fun D1 hD1=>?_⟩
  refine cJ (K:=K) (xs:=bs.map V.ref) (fun i ys σ H2=>(∃a,σ=[a])∧Same H H2∧H2 D1=some (.lst ys)∧∃cs:List Addr,ys=cs.map V.ref∧cs.length=i∧cs.Nodup∧(∀c∈cs,H c=none∧c≠D1∧H2 c≠none)∧∀j,j<i→H2 (cs.getD j 0)=some (.lst (NV (outN n ts j))))
   ⟨⟨_,rfl⟩,aG hD1,aB,[],rfl,rfl,List.nodup_nil,fun c hc=>(nomatch hc),fun j hj=>absurd hj (Nat.not_lt_zero _)⟩ (fun i ys σ H2 _ z=>SqL.of (z.2.1 _ _ b1)) ?_ ?_
  ·rintro i x ys σ H2 Kt Kf hx ⟨⟨a,rfl⟩,sm,hDl,cs,rfl,cl,nd,hc,hr2⟩ kt kf
   have hi:i<n:=by have:=(List.getElem?_eq_some_iff.mp hx).1;rw[List.length_map] at this;lia
   obtain rfl:V.ref (bs.getD i 0)=x:=by rw[fO (by lia)] at hx;exact Option.some.inj hx
   refine⟨_,rfl,_,_,rfl,.inl (SqL.of (sm _ _ (b3.2 i hi))),fun l hl=>?_⟩
   have nD:D1≠l:=aH hDl hl
   have nl:∀c∈cs,c≠l:=fun c hc'=>by rintro rfl;exact(hc c hc').2.2 hl
   refine kt _ _ _ (by rw[aF nD];exact hDl) (by rw[List.length_map,cl];exact Nat.lt_of_lt_of_le (show i<33 by lia) (by decide)) ⟨⟨_,rfl⟩,bE (sm.trans (aG hl)) hD1,aB,cs++[l],by rw[List.map_append];rfl,by rw[List.length_append,cl];rfl,?_,fun c hc'=>?_,fun j hj=>?_⟩
   ·exact List.nodup_append.mpr ⟨nd,by simp,fun a ha b hb=>by rw[List.mem_singleton.mp hb];exact nl a ha⟩
   ·rcases List.mem_append.mp hc' with z|z
    ·exact⟨(hc c z).1,(hc c z).2.1,by rw[aF (hc c z).2.1,aF (nl c z)];exact(hc c z).2.2⟩
    ·rw[List.mem_singleton.mp z]
     exact⟨sm.free hl,nD.symm,by rw[aF nD.symm,aB];exact fun z=>by cases z⟩
   ·by_cases c:j<i
    ·have m:=fG (cs:=cs) (j:=j) (by lia)
     have e:(cs++[l]).getD j 0=cs.getD j 0:=by rw[List.getD_eq_getElem?_getD,List.getD_eq_getElem?_getD,List.getElem?_append_left (by lia)]
     rw[e,aF (hc _ m).2.1,aF (nl _ m)]
     exact hr2 j c
    ·obtain rfl:j=i:=by lia
     have e:(cs++[l]).getD j 0=l:=by rw[List.getD_eq_getElem?_getD,List.getElem?_append_right (by lia),cl,Nat.sub_self];rfl
     rw[e,aF nD.symm,aB]
  rintro ys σ H2 ⟨⟨a,rfl⟩,sm,hDl,cs,rfl,cl,nd,hc,hr2⟩
  rw[List.length_map,bl] at cl hr2
  have fD:H D1=none:=hD1
  have cH:∀h,h<n→H (cs.getD h 0)=none∧cs.getD h 0≠D1:=fun h hh=>⟨(hc _ (fG (by lia))).1,(hc _ (fG (by lia))).2.1⟩
  have l16:=SD.le
  have nsa:=hp.neT hsa
  have nha:=hp.neT hha
  have npD:=hp.ne fD
  have npc:∀h,h<n→cs.getD h 0≠p:=fun h hh=>hp.ne (cH h hh).1
  dsimp only
  refine⟨by show 1≤sizeLine;decide,fun L1 hL1=>⟨_,rfl,sa,_,rfl,.inr (SqT.of ((sm.trans (aG hL1)) _ _ hsa)),L1,_,_,rfl,rfl,aB,by lia,by rw[List.length_map];lia,by rw[Int.toNat_natCast,List.length_singleton,List.length_map];exact Nat.le_trans (show 1*st.length≤32 by lia) (by decide),fun Fo hFo=>?_⟩⟩
  rw[Int.toNat_natCast,gO,List.length_map]
  have eM:List.replicate st.length V.non=(List.replicate st.length none).map oV:=by rw[List.map_replicate];rfl
  rw[eM]
  have sL1:=aG (o:=.lst [.non]) hL1
  have sm1:=sm.trans sL1
  have fF:=sm1.free hFo
  have npF:=hp.ne fF
  have nFD:Fo≠D1:=(aH (sL1 _ _ hDl) hFo).symm
  have nFc:∀h,h<n→cs.getD h 0≠Fo:=fun h hh=>aH (sL1 _ _ (hr2 h hh)) hFo
  have sF:=aG (o:=.lst ((List.replicate st.length none).map oV)) hFo
  have gF:=aB (H:=upd H2 L1 (.lst [.non])) (a:=Fo) (o:=.lst ((List.replicate st.length none).map oV))
  have gD:=sF _ _ (sL1 _ _ hDl)
  have gc:∀h,h<n→_:=fun h hh=>sF _ _ (sL1 _ _ (hr2 h hh))
  have sm2:=sm1.trans sF
  generalize upd (upd H2 L1 _) Fo _=H3 at *
  have hp3:=hp.same sm2
  refine⟨_,rfl,_,rfl,sa,_,rfl,.inr (SqT.of (sm2 _ _ hsa)),p,st.length,by rw[List.length_map];rfl,by lia,hp3,fun od os0 H4 s4 hp4 fod hod pm=>?_⟩
  refine⟨_,rfl,⟨_,SqL.of hod⟩,fun D2 hD2=>?_⟩
  have os0l:os0.length=st.length:=by rw[pm.length_eq,List.length_range]
  have hsa4:=s4 _ _ (sm2 _ _ hsa) nsa
  refine mQ (os:=os0) (fun i=>(st.getD i none).isSome) (fun σ=>∃b,σ=[b,some (.ref sa)]) hod hD2 (by lia) ⟨_,rfl⟩ ?_ ?_
  ·rintro x σ H5 Kt Kf hx ⟨b',rfl⟩ sm5 kt kf
   have hxl:x<st.length:=List.mem_range.mp (pm.mem_iff.mp hx)
   refine⟨_,rfl,_,rfl,sa,_,_,_,rfl,rfl,SqT.of (sm5 _ _ hsa4),aM (eT hxl),rfl,_,rfl,?_⟩
   cases ho:st.getD x none with
   |none=>exact iteF (kf _ _ ⟨_,rfl⟩ (Same.refl _) (by rw[ho];rfl))
   |some h=>exact iX rfl ⟨_,rfl,kt _ _ ⟨_,rfl⟩ (Same.refl _) (by rw[ho];rfl)⟩
  intro H5 s5 hD5
  have osn:(os0.filter fun i=>(st.getD i none).isSome).Nodup:=(pm.nodup_iff.mpr List.nodup_range).sublist (List.filter_sublist)
  have osm:∀j,j∈os0.filter (fun i=>(st.getD i none).isSome)↔j<st.length∧st.getD j none≠none:=fun j=>by
   rw[List.mem_filter,pm.mem_iff,List.mem_range]
   cases st.getD j none <;> simp
  have osl:(os0.filter fun i=>(st.getD i none).isSome).length≤16:=Nat.le_trans (List.length_filter_le _ _) (by lia)
  generalize (os0.filter fun i=>(st.getD i none).isSome)=os at *
  have s35:aI p H3 H5:=s4.trans (aI.of s5)
  have sH5:aI p H H5:=(aI.of sm2).trans s35
  have fD2:H D2=none:=((aI.of sm2).trans s4).free hp4.full hD2
  have npD2:=hp.ne fD2
  have hp5:=hp4.same s5
  have n2D:D2≠D1:=(aH (s4 _ _ gD npD) hD2).symm
  have n2F:D2≠Fo:=(aH (s4 _ _ gF npF) hD2).symm
  have n2c:∀h,h<n→cs.getD h 0≠D2:=fun h hh=>aH (s4 _ _ (gc h hh) (npc h hh)) hD2
  have iat:∀ {k i},(NV os)[k]?=some i→∃j h,i=V.int ((j:Nat):Int)∧os[k]?=some j∧j<st.length∧st.getD j none=some h∧h<n:=fun {k i} hk=>by
   obtain⟨j,hj,rfl⟩:=kF hk
   obtain⟨jl,jn⟩:=(osm j).mp (List.mem_of_getElem? hj)
   cases ho:st.getD j none with
   |none=>exact absurd ho jn
   |some h=>exact⟨j,h,rfl,hj,jl,ho,SD.ss h (by rw[← ho,List.getD_eq_getElem?_getD,List.getElem?_eq_getElem jl];exact List.getElem_mem _)⟩
  dsimp only
  refine⟨_,rfl,D2,rfl,⟨_,SqL.of hD5⟩,fP (K:=K) (xs:=NV os) (fun k σ Hc=>(∃ (ls:Nat→List Nat) (fs:List (Option Nat)),(∃a b c,σ=[some (.ref p),some (.ref r),some (.ref fr),some (.ref ha),some (.ref sa),some (.ref D1),some (.ref Fo),some (.ref D2),a,b,c])∧aI p H Hc∧bB Hc p∧Hc D1=some (.lst (cs.map V.ref))∧Hc Fo=some (.lst (fs.map oV))∧Hc D2=some (.lst (NV os))∧LInv n ts st fs ls∧(∀h,h<n→Hc (cs.getD h 0)=some (.lst (NV (ls h))))∧∀j,fs.getD j none≠none→j∈os.take k)) ⟨outN n ts,_,⟨_,_,_,rfl⟩,sH5,hp5,s35 _ _ gD npD,s35 _ _ gF npF,hD5,LInv.start,fun h hh=>s35 _ _ (gc h hh) (npc h hh),fun j hj=>absurd lR hj⟩ (fun k σ Hc _ z=>by obtain⟨_,_,_,_,_,_,_,z,_⟩:=z;exact SqL.of z) ?_ ?_⟩
  ·rintro k i σ Hc hk ⟨ls,fs,⟨a8,a9,a10,rfl⟩,sc,hpc,hDc,hFc,h2c,LI,hls,hset⟩
   obtain⟨j,h,rfl,hj,jl,ho,hh⟩:=iat hk
   have jf:fs.getD j none=none:=by
    cases e:fs.getD j none with
    |none=>rfl
    |some y=>
     have:=hset j (by rw[e];exact fun z=>by cases z)
     obtain⟨i',hi',ei⟩:=List.getElem_of_mem this
     rw[List.length_take] at hi'
     rw[List.getElem_take] at ei
     have hkk:=(List.getElem?_eq_some_iff.mp hj).2
     have:=(List.getElem_inj osn).mp (ei.trans hkk.symm)
     lia
   have fl:=LI.len
   have hsac:=sc _ _ hsa nsa
   have hhac:=sc _ _ hha nha
   have oi:(st.map oV)[j]?=some (.int (h:Int)):=by rw[eT jl,ho];rfl
   have hm:homes.getD j 0<n:=SD.hs _ (by rw[List.getD_eq_getElem?_getD,List.getElem?_eq_getElem (by rw[SD.len];exact jl)];exact List.getElem_mem _)
   have hh':=cZ (xs:=homes) (j:=j) (by rw[SD.len];exact jl)
   have RFc:bL Hc L' fr n (fun h=>(List.range n).map (far ts h)):=RF.keep hLf fun b o l e=>sc b o e fun z=>hLp (z ▸ l)
   obtain⟨es,e1,e2,e3⟩:=RFc
   have ge:∀k,k<n→(es.map V.ref)[k]?=some (.ref (es.getD k 0)):=fun k hk=>fO (by rw[e3.1];exact hk)
   have ch:=fO (bs:=cs) (h:=h) (by lia)
   refine⟨_,rfl,_,rfl,_,rfl,sa,_,_,_,rfl,rfl,SqT.of hsac,aM oi,fr,_,_,_,rfl,rfl,SqL.of e1,aM (ge h hh),_,rfl,_,rfl,ha,_,_,_,rfl,rfl,SqT.of hhac,aM hh',_,_,_,_,rfl,rfl,SqL.of (e3.2 h hh),aM (jW hm),?_⟩
   refine⟨_,rfl,_,rfl,_,rfl,sa,_,_,_,rfl,rfl,SqT.of hsac,aM oi,D1,_,_,_,rfl,rfl,SqL.of hDc,aM ch,_,rfl,⟨_,SqL.of (hls h hh)⟩,fun D3 hD3=>?_⟩
   have lsn:∀x∈ls h,x<n:=fun x hx=>aBm (by lia) (LI.sub h hh x hx)
   have lsl:(ls h).length≤32:=by have:=mO (n:=n) (ts:=ts) (h:=h);have:=LI.cnt h hh;lia
   refine mQ (os:=ls h) (fun y=>decide (far ts y (homes.getD j 0)<far ts h (homes.getD j 0))) (fun σ=>∃b,σ=[b,some (.ref fr),some (.ref ha),some (.int (j:Int)),some (.int ((far ts h (homes.getD j 0):Nat):Int))]) (hls h hh) hD3 (by lia) ⟨_,rfl⟩ ?_ ?_
   ·rintro x σ H6 Kt Kf hx ⟨b',rfl⟩ sm6 kt kf
    refine⟨_,rfl,_,rfl,fr,_,_,_,rfl,rfl,SqL.of (sm6 _ _ e1),aM (ge x (lsn x hx)),_,rfl,_,rfl,ha,_,_,_,rfl,rfl,SqT.of (sm6 _ _ hhac),aM hh',_,_,_,_,rfl,rfl,SqL.of (sm6 _ _ (e3.2 x (lsn x hx))),aM (jW hm),_,rfl,_,_,rfl,rfl,_,rfl,?_⟩
    refine ite2 (fun c=>?_) (fun c=>?_)
    ·exact⟨_,rfl,kt _ _ ⟨_,rfl⟩ (Same.refl _) (decide_eq_true (by have:=of_decide_eq_true c;lia))⟩
    ·exact kf _ _ ⟨_,rfl⟩ (Same.refl _) (decide_eq_false fun z=>c (decide_eq_true (by lia)))
   intro H6 s6 hD6
   have gsm:∀x∈(ls h).filter (fun y=>decide (far ts y (homes.getD j 0)<far ts h (homes.getD j 0))),x∈ls h:=fun x hx=>(List.mem_filter.mp hx).1
   have gsl:((ls h).filter (fun y=>decide (far ts y (homes.getD j 0)<far ts h (homes.getD j 0)))).length≤32:=Nat.le_trans (List.length_filter_le _ _) lsl
   generalize (ls h).filter _=gs at *
   have s56:aI p Hc H6:=aI.of s6
   dsimp only
   refine⟨_,rfl,by show 0≤sizeLine;decide,fun E1 hE1=>?_⟩
   have sE:=aG (o:=.lst []) hE1
   refine⟨D3,E1,_,[],rfl,rfl,SqL.of (sE _ _ hD6),SqL.of aB,fun i h1 h2=>absurd h2 (by simp),_,rfl,?_⟩
   rw[if_pos rfl,lP]
   have s7:=s6.trans sE
   have hD7:=sE _ _ hD6
   generalize upd H6 E1 _=H7 at *
   have hp7:=hpc.same s7
   have sH7:=sc.trans (aI.of s7)
   have nD3:=hpc.ne hD3
   by_cases e:NV gs=[]
   ·rw[decide_eq_true e]
    exact iteF ⟨ls,fs,⟨_,_,_,rfl⟩,sH7,hp7,s7 _ _ hDc,s7 _ _ hFc,s7 _ _ h2c,LI,fun h hh=>s7 _ _ (hls h hh),fun j' hj'=>by rw[dU hj];exact List.mem_append_left _ (hset j' hj')⟩
   ·rw[decide_eq_false e]
    have gl:0<gs.length:=by
     rcases gs with _|⟨x,xs⟩
     ·exact absurd rfl e
     ·simp
    refine iteT ⟨_,rfl,_,rfl,_,rfl,D3,_,rfl,.inl (SqL.of hD7),p,_,rfl,by rw[aU];exact gl,by rw[aU];lia,hp7,fun d H8 hd s8 hp8=>?_⟩
    rw[aU] at hd
    have hym:gs.getD d 0∈ls h:=gsm _ (by rw[List.getD_eq_getElem?_getD,List.getElem?_eq_getElem hd];exact List.getElem_mem _)
    have sH8:=sH7.trans s8
    have hD8:=s8 _ _ (s7 _ _ hDc) npD
    have hF8:=s8 _ _ (s7 _ _ hFc) npF
    have h28:=s8 _ _ (s7 _ _ h2c) npD2
    have hl8:∀h,h<n→H8 (cs.getD h 0)=some (.lst (NV (ls h))):=fun h hh=>s8 _ _ (s7 _ _ (hls h hh)) (npc h hh)
    refine⟨D3,_,_,_,rfl,rfl,SqL.of (s8 _ _ hD7 nD3),aM (cZ hd),_,rfl,_,rfl,Fo,_,(j:Int),j,rfl,rfl,hF8,cT (by rw[List.length_map];lia),?_⟩
    generalize gs.getD d 0=y at *
    obtain⟨kk,hkk,gk,ek⟩:=aCB hym
    have eF:(fs.map oV).set j (.int (y:Int))=(fs.set j (some y)).map oV:=uX (o:=some y)
    rw[eF]
    have gF9:(upd H8 Fo (.lst ((fs.set j (some y)).map oV))) Fo=some (.lst ((fs.set j (some y)).map oV)):=aB
    have hD9:(upd H8 Fo (.lst ((fs.set j (some y)).map oV))) D1=some (.lst (cs.map V.ref)):=by rw[aF nFD.symm];exact hD8
    have h29:(upd H8 Fo (.lst ((fs.set j (some y)).map oV))) D2=some (.lst (NV os)):=by rw[aF n2F];exact h28
    have hl9:∀h,h<n→(upd H8 Fo (.lst ((fs.set j (some y)).map oV))) (cs.getD h 0)=some (.lst (NV (ls h))):=fun h hh=>by rw[aF (nFc h hh)];exact hl8 h hh
    have hsa9:(upd H8 Fo (.lst ((fs.set j (some y)).map oV))) sa=some (.tup (st.map oV)):=by rw[aF (aH hsa fF)];exact sH8 _ _ hsa nsa
    have sH9:aI p H (upd H8 Fo (.lst ((fs.set j (some y)).map oV))):=aI.put sH8 fF
    have hp9:=hp8.put (o:=.lst ((fs.set j (some y)).map oV)) npF.symm
    generalize upd H8 Fo _=H9 at *
    have fj:((fs.set j (some y)).map oV)[j]?=some (.int (y:Int)):=by rw[eT (by rw[List.length_set];lia),fJ (by lia),if_pos rfl];rfl
    have gl9:H9 (cs.getD h 0)=some (.lst ((ls h).map (fun (x:Nat)=>(x:Int)) |>.map V.int)):=by rw[hl9 h hh,List.map_map];rfl
    refine⟨_,rfl,_,rfl,_,rfl,sa,_,_,_,rfl,rfl,SqT.of hsa9,aM oi,D1,_,_,_,rfl,rfl,SqL.of hD9,aM ch,.inl ⟨rfl,_,SqL.of (hl9 h hh)⟩,_,rfl,_,rfl,Fo,_,_,_,rfl,rfl,SqL.of gF9,aM fj,cs.getD h 0,_,(y:Int),rfl,rfl,gl9,List.mem_map.mpr ⟨y,hym,rfl⟩,?_⟩
    rw[ek]
    obtain⟨q1,q2,q3,q4⟩:=pC (LI.nd h hh) hkk
    have ey:(ls h)[kk]=y:=by rw[List.getElem?_eq_getElem hkk] at gk;exact Option.some.inj gk
    rw[ey] at q1 q3
    refine⟨fun k=>if k=h then (ls h).eraseIdx kk else ls k,fs.set j (some y),⟨_,_,_,rfl⟩,aI.put sH9 (cH h hh).1,hp9.put (npc h hh).symm,by rw[aF (cH h hh).2.symm];exact hD9,by rw[aF (nFc h hh).symm];exact gF9,by rw[aF (n2c h hh).symm];exact h29,LI.step jl ho hh jf q1 q2 q3 q4,fun k' hk'=>?_,fun j' hj'=>?_⟩
    ·dsimp only
     by_cases c:k'=h
     ·subst c;rw[if_pos rfl,aB]
     ·rw[if_neg c,aF (rW nd (by lia) (by lia) c)];exact hl9 k' hk'
    ·rw[dU hj]
     rw[fJ (by lia)] at hj'
     by_cases c:j'=j
     ·rw[c];exact List.mem_append_right _ List.mem_cons_self
     ·rw[if_neg c] at hj';exact List.mem_append_left _ (hset j' hj')
  ·rintro σ Hc ⟨ls,fs,⟨a8,a9,a10,rfl⟩,sc,hpc,hDc,hFc,h2c,LI,hls,_⟩
   refine⟨_,rfl,D2,rfl,⟨_,SqL.of h2c⟩,fP (K:=K) (xs:=NV os) (fun k σ Hc=>(∃ (ls:Nat→List Nat) (fs:List (Option Nat)),(∃a b c,σ=[some (.ref p),some (.ref r),some (.ref fr),some (.ref ha),some (.ref sa),some (.ref D1),some (.ref Fo),some (.ref D2),a,b,c])∧aI p H Hc∧bB Hc p∧Hc D1=some (.lst (cs.map V.ref))∧Hc Fo=some (.lst (fs.map oV))∧Hc D2=some (.lst (NV os))∧LInv n ts st fs ls∧(∀h,h<n→Hc (cs.getD h 0)=some (.lst (NV (ls h))))∧∀j,j∈os.take k→fs.getD j none≠none)) ⟨ls,fs,⟨_,_,_,rfl⟩,sc,hpc,hDc,hFc,h2c,LI,hls,fun j hj=>by simp at hj⟩ (fun k σ Hc _ z=>by obtain⟨_,_,_,_,_,_,_,z,_⟩:=z;exact SqL.of z) ?_ ?_⟩
   ·rintro k i σ Hc hk ⟨ls,fs,⟨a8,a9,a10,rfl⟩,sc,hpc,hDc,hFc,h2c,LI,hls,hset⟩
    obtain⟨j,h,rfl,hj,jl,ho,hh⟩:=iat hk
    have fl:=LI.len
    have hsac:=sc _ _ hsa nsa
    have oi:(st.map oV)[j]?=some (.int (h:Int)):=by rw[eT jl,ho];rfl
    have ch:=fO (bs:=cs) (h:=h) (by lia)
    refine⟨_,rfl,_,rfl,Fo,_,_,_,rfl,rfl,SqL.of hFc,aM (eT (by lia)),rfl,_,rfl,?_⟩
    cases jf:fs.getD j none with
    |some y=>
     refine kH rfl ⟨ls,fs,⟨_,_,_,rfl⟩,sc,hpc,hDc,hFc,h2c,LI,hls,fun j' hj'=>?_⟩
     rw[dU hj] at hj'
     rcases List.mem_append.mp hj' with z|z
     ·exact hset j' z
     ·rw[List.mem_singleton.mp z,jf];exact fun z=>by cases z
    |none=>
     have g1:=hls h hh
     have lp:0<(ls h).length:=LI.full jl ho hh jf (SD.cap h hh)
     have lu:(ls h).length≤32:=by have:=mO (n:=n) (ts:=ts) (h:=h);have:=LI.cnt h hh;lia
     refine iteT ⟨_,rfl,_,rfl,_,rfl,sa,_,_,_,rfl,rfl,SqT.of hsac,aM oi,D1,_,_,_,rfl,rfl,SqL.of hDc,aM ch,.inl ⟨rfl,_,SqL.of g1⟩,_,rfl,_,rfl,_,rfl,_,rfl,sa,_,_,_,rfl,rfl,SqT.of hsac,aM oi,D1,_,_,_,rfl,rfl,SqL.of hDc,aM ch,_,_,rfl,.inl (SqL.of g1),p,_,rfl,by rw[aU];exact lp,by rw[aU];lia,hpc,fun d H9 hd s9 hp9=>?_⟩
     rw[aU] at hd
     have hv:(ls h)[d]?=some (ls h)[d]:=List.getElem?_eq_getElem hd
     have hF9:=s9 _ _ hFc npF
     refine⟨_,_,(d:Int),d,.int ((ls h)[d]:Nat),rfl,rfl,s9 _ _ g1 (npc h hh),by lia,by lia,(jJ (cT (by rw[aU];exact hd))).1,by unfold NV;rw[List.getElem?_map,hv];rfl,?_⟩
     refine⟨_,rfl,_,rfl,Fo,_,(j:Int),j,rfl,rfl,by rw[aF (nFc h hh).symm];exact hF9,cT (by rw[List.length_map];lia),?_⟩
     have eF:(fs.map oV).set j (.int (((ls h)[d]:Nat):Int))=(fs.set j (some (ls h)[d])).map oV:=uX (o:=some (ls h)[d])
     rw[eF,iS]
     obtain⟨q1,q2,q3,q4⟩:=pC (LI.nd h hh) hd
     refine⟨fun k=>if k=h then (ls h).eraseIdx d else ls k,fs.set j (some (ls h)[d]),⟨_,_,_,rfl⟩,aI.put (aI.put (sc.trans s9) (cH h hh).1) fF,(hp9.put (npc h hh).symm).put npF.symm,by rw[aF nFD.symm,aF (cH h hh).2.symm];exact s9 _ _ hDc npD,aB,by rw[aF n2F,aF (n2c h hh).symm];exact s9 _ _ h2c npD2,LI.step jl ho hh jf q1 q2 q3 q4,fun k' hk'=>?_,fun j' hj'=>?_⟩
     ·dsimp only
      rw[aF (nFc k' hk')]
      by_cases c:k'=h
      ·subst c;rw[if_pos rfl,aB]
      ·rw[if_neg c,aF (rW nd (by lia) (by lia) c)];exact s9 _ _ (hls k' hk') (npc k' hk')
     ·rw[dU hj] at hj'
      rw[fJ (by lia)]
      by_cases c:j'=j
      ·rw[if_pos c];exact fun z=>by cases z
      ·rw[if_neg c]
       rcases List.mem_append.mp hj' with z|z
       ·exact hset j' z
       ·exact absurd (List.mem_singleton.mp z) c
   ·rintro σ Hc ⟨ls,fs,⟨a8,a9,a10,rfl⟩,sc,hpc,hDc,hFc,h2c,LI,hls,hset⟩
    refine⟨_,rfl,Fo,_,rfl,.inl ⟨SqL.of hFc,fun t ht=>?_⟩⟩
    have st':=aG (o:=.tup (fs.map oV)) ht
    rw[aU,List.take_length] at hset
    refine q t fs _ (sc.trans (aI.of st')) (hpc.same st') aB (LI.done fun j hj=>hset j ((osm j).mpr ⟨?_,hj⟩))
    rcases Nat.lt_or_ge j st.length with c|c
    ·exact c
    ·exact absurd (by rw[List.getD_eq_getElem?_getD,List.getElem?_eq_none c];rfl) hj
end
end K12
namespace K12
open PySem L2 NetM
abbrev qJ:Stmt:=top 41
theorem pE:(["_law_j","_law_stand_here"]:List Str).Nodup:=by decide +kernel
theorem hZ:(["_law_there","_law_far_here","_law_homes","_law_i"]:List Str).Nodup:=by decide +kernel
theorem gJ:(["_law_there","_law_far_here","_law_homes","_law_i","_law_most"]:List Str).Nodup:=by decide +kernel
theorem aDE{K:PySem.W.Frag}{a D:Addr}{os:List Nat}{g:TG}{tt:TT}{te:TE}{fin:Hp→Prop}{σB:St}{H0:Hp}(c:Nat→Nat)(shape:St→Prop)(ha:H0 a=some (.lst (NV os)))(hD:H0 D=none)(hn:os.length≤1000)(h0:shape σB)(hs:∀x σ H (Kt:V→St→Hp→Prop) (Kf:St→Hp→Prop),x∈os→shape σ→Same H0 H→(∀σ2 H2,shape σ2→Same H H2→Kt (.int (c x:Nat)) σ2 H2)→
   g (.int (x:Nat)) σ H fun σ2 H2=>tt σ2 H2 fun b H3=>if b=true then te σ2 H3 fun v H4=>Kt v σ2 H4 else Kf σ2 H3)(hd:∀H,Same H0 H→H D=some (.lst (NV (os.map c)))→fin H):dN (Itl K a) g tt te D fin σB (upd H0 D (.lst [])):=by
 refine cJ (xs:=NV os) (fun i ys σ H=>shape σ∧Same H0 H∧H D=some (.lst ys)∧ys=NV ((os.take i).map c)) ⟨h0,aG hD,aB,rfl⟩ (fun i ys σ H _ z=>SqL.of (z.2.1 _ _ ha)) ?_ ?_
 ·rintro i x ys σ H Kt Kf hx ⟨sh,sm,hDl,rfl⟩ kt kf
  obtain⟨y,hy,rfl⟩:=kF hx
  refine hs y σ H Kt Kf (List.mem_of_getElem? hy) sh sm (fun σ2 H2 sh2 s2=>?_)
  refine kt _ _ _ (s2 _ _ hDl) ?_ ⟨sh2,bE (sm.trans s2) hD,aB,?_⟩
  ·rw[aU,List.length_map]
   exact Nat.lt_of_le_of_lt (List.length_take_le' _ _) (Nat.lt_of_le_of_lt hn (by decide))
  ·rw[dU hy,List.map_append,show [y].map c=[c y] from rfl,gN]
 ·rintro ys σ H ⟨_,sm,hDl,rfl⟩
  rw[aU,List.take_length] at hDl
  exact hd H sm hDl
section
variable {P:Program} {w:World} {K:PySem.W.Frag} {mg:Str→Option Value} {base:Heap}
theorem gU:aZ ["_law_pot_here","_law_outs_here","_law_far_here","_law_homes","_law_stand_here","_law_left","_law_found","_law_i","_law_some","_law_most"] ["_law_pot_here","_law_outs_here","_law_far_here","_law_homes","_law_stand_here"] (aN qJ):=⟨rfl,rfl,rfl,by decide +kernel,rfl,by decide +kernel,by decide +kernel⟩
theorem aBp{f:Addr}{fd:FuncData}(F:Fun K "_law_astray" "_law_astray" qJ f fd)(B:Bl mg)(OR:Cal P w K mg base CX0 2 "_law_order" ["_law_pot_here","_law_many"] iE):FnOk P w K mg base CX0 3 f fd ["_law_pot_here","_law_outs_here","_law_far_here","_law_homes","_law_stand_here"] iG:=by
 refine F.ok gU (fun vs H Q E h=>?_) (fun cdv A outer s H vs Q E hr h=>?_)
 ·obtain⟨p,r,fr,n,ts,L,L',ha,sa,homes,st,rfl,_⟩:=h
  rfl
 ·obtain⟨p,r,fr,n,ts,L,L',ha,sa,homes,st,rfl,Fi,hp,R0,RF,hLf,hLp,hha,hsa,SD,q⟩:=h
  have n1:=Fi.n1
  have n2:=Fi.n2
  refine'⟨_,(aE (cM (i:=5) (g:=(bG 0)) (te:=(tCB (fun xs H Q=>∃p ys,xs=[V.ref p]∧(SqL K H p ys∨SqT K H p ys)∧∀l,H l=none→Q (.ref l) (upd H l (.lst ys))) (bK (tVar 0) tNil))) (NB:=["_law_row"]) (src:=[none]) (bH (by kernel_rfl)) rfl (bP (pv 1)) ?g1 ?t1 ?e1 gU.nd rfl rfl rfl)
   (aE (aO (i:=6) gU.nd rfl (Or.inl rfl) (aY kT (bU (aA dQ aD)) (aS aW (by rfl) B.len PySem.boot_len (aA (pv 4) aD))))
   (aE (cA PassesOwn.never rfl (bP ?c2) (aL (i:=7) gU.nd rfl (Or.inr rfl))
    (aE (aO (i:=8) gU.nd rfl (Or.inl rfl) (aR aP (pv 5) (aR cG (pv 4) (pv 7) (fun _ _=>rfl)) (fun _ _=>rfl)))
    (aE (aO (i:=9) gU.nd rfl (Or.inr rfl) (aS (lK rfl) (by rfl) B.max PyProof.Rows.boot_max (aA ?c3 aD)))
    (aE (cK (aR aP ?c4 aK (fun _ _=>rfl)) (eI (pv 6) (pv 7) dA))
    (aJ (bS (cX PySem.F.plainAttrs_list PySem.F.slot_list_remove PySem.F.type_list_remove rA (pv 8) (aA (aR aP (pv 6) (pv 7) (fun _ _=>rfl)) aD))))))))
   (aJ (bA (cD dO (by rfl) B.tup PyProof.Rows.boot_tuple (aA (pv 6) aD))))))),?_⟩
  case g1=>exact fun cl C s₃ H₃ fp=>(aL (i:=0) uO rfl (Or.inl rfl) (Or.inr rfl))
  case t1=>exact fun cl C s₃ H₃ fp=>bZ
  case e1=>exact fun cl C s₃ H₃ fp=>(cD eV (by rfl) B.lst PyProof.Rows.boot_list (aA (pv 0) aD))
  case c2=>
   refine' bV (g:=(bG 0)) (tt:=(fL (tOp (fun x y H Q=>y=.non∧Q (.bl (!decide (x=.non))) H) (tOp (rIxT K) (tVar 1) (tVar 0)) (tC .non)))) (te:=(tVar 0)) (NB:=["_law_j","_law_stand_here"]) (src:=[none,some 4]) (bH (by kernel_rfl)) rfl (bP (aQ OR hr aT (aA (pv 0) (aA (aS aW (by rfl) B.len PySem.boot_len (aA (pv 4) aD)) aD)))) ?g ?t ?e
   case g=>exact fun cl C s₃ H₃ fp=>(aL (i:=0) pE rfl (Or.inl rfl) (Or.inr rfl))
   case t=>exact fun cl C s₃ H₃ fp=>dG (aV lU (aR cG (pv 1) (pv 0) (fun _ _=>rfl)) dQ (aX _))
   case e=>exact fun cl C s₃ H₃ fp=>(pv 0)
  case c3=>
   refine' bV (g:=(bG 0)) (te:=(tOp (rIxL K) (tOp (rIxL K) (tVar 1) (tVar 0)) (tOp (rIxT K) (tVar 2) (tVar 3)))) (NB:=["_law_there","_law_far_here","_law_homes","_law_i"]) (src:=[none,some 2,some 3,some 7]) (bH (by kernel_rfl)) rfl (bP (pv 8)) ?g ?t ?e
   case g=>exact fun cl C s₃ H₃ fp=>(aL (i:=0) hZ rfl (Or.inl rfl) (Or.inr rfl))
   case t=>exact fun cl C s₃ H₃ fp=>bZ
   case e=>exact fun cl C s₃ H₃ fp=>(aR aP (aR aP (pv 1) (pv 0) (fun _ _=>rfl)) (aR cG (pv 2) (pv 3) (fun _ _=>rfl)) (fun _ _=>rfl))
  case c4=>
   refine' bV (g:=(bG 0)) (tt:=(fL (tOp (rEq) (tOp (rIxL K) (tOp (rIxL K) (tVar 1) (tVar 0)) (tOp (rIxT K) (tVar 2) (tVar 3))) (tVar 4)))) (te:=(tVar 0)) (NB:=["_law_there","_law_far_here","_law_homes","_law_i","_law_most"]) (src:=[none,some 2,some 3,some 7,some 9]) (bH (by kernel_rfl)) rfl (bP (pv 8)) ?g ?t ?e
   case g=>exact fun cl C s₃ H₃ fp=>(aL (i:=0) gJ rfl (Or.inl rfl) (Or.inr rfl))
   case t=>exact fun cl C s₃ H₃ fp=>dG (aV dM (aR aP (aR aP (pv 1) (pv 0) (fun _ _=>rfl)) (aR cG (pv 2) (pv 3) (fun _ _=>rfl)) (fun _ _=>rfl)) (pv 4) (aX _))
   case e=>exact fun cl C s₃ H₃ fp=>(pv 0)
  obtain⟨bs,b1,b2,b3⟩:=R0
  have bl:bs.length=n:=b3.1
  refine⟨_,rfl,r,rfl,⟨_,SqL.of b1⟩,fun D1 hD1=>?_⟩
  refine cJ (K:=K) (xs:=bs.map V.ref) (fun i ys σ H2=>(∃a,σ=[a])∧Same H H2∧H2 D1=some (.lst ys)∧∃cs:List Addr,ys=cs.map V.ref∧cs.length=i∧cs.Nodup∧(∀c∈cs,H c=none∧c≠D1∧H2 c≠none)∧∀j,j<i→H2 (cs.getD j 0)=some (.lst (NV (outN n ts j))))
   ⟨⟨_,rfl⟩,aG hD1,aB,[],rfl,rfl,List.nodup_nil,fun c hc=>(nomatch hc),fun j hj=>absurd hj (Nat.not_lt_zero _)⟩ (fun i ys σ H2 _ z=>SqL.of (z.2.1 _ _ b1)) ?_ ?_
  ·rintro i x ys σ H2 Kt Kf hx ⟨⟨a,rfl⟩,sm,hDl,cs,rfl,cl,nd,hc,hr2⟩ kt kf
   have hi:i<n:=by have:=(List.getElem?_eq_some_iff.mp hx).1;rw[List.length_map] at this;lia
   obtain rfl:V.ref (bs.getD i 0)=x:=by rw[fO (by lia)] at hx;exact Option.some.inj hx
   refine⟨_,rfl,_,_,rfl,.inl (SqL.of (sm _ _ (b3.2 i hi))),fun l hl=>?_⟩
   have nD:D1≠l:=aH hDl hl
   have nl:∀c∈cs,c≠l:=fun c hc'=>by rintro rfl;exact(hc c hc').2.2 hl
   refine kt _ _ _ (by rw[aF nD];exact hDl) (by rw[List.length_map,cl];exact Nat.lt_of_lt_of_le (show i<33 by lia) (by decide)) ⟨⟨_,rfl⟩,bE (sm.trans (aG hl)) hD1,aB,cs++[l],by rw[List.map_append];rfl,by rw[List.length_append,cl];rfl,?_,fun c hc'=>?_,fun j hj=>?_⟩
   ·exact List.nodup_append.mpr ⟨nd,by simp,fun a ha b hb=>by rw[List.mem_singleton.mp hb];exact nl a ha⟩
   ·rcases List.mem_append.mp hc' with z|z
    ·exact⟨(hc c z).1,(hc c z).2.1,by rw[aF (hc c z).2.1,aF (nl c z)];exact(hc c z).2.2⟩
    ·rw[List.mem_singleton.mp z]
     exact⟨sm.free hl,nD.symm,by rw[aF nD.symm,aB];exact fun z=>by cases z⟩
   ·by_cases c:j<i
    ·have m:=fG (cs:=cs) (j:=j) (by lia)
     have e:(cs++[l]).getD j 0=cs.getD j 0:=by rw[List.getD_eq_getElem?_getD,List.getD_eq_getElem?_getD,List.getElem?_append_left (by lia)]
     rw[e,aF (hc _ m).2.1,aF (nl _ m)]
     exact hr2 j c
    ·obtain rfl:j=i:=by lia
     have e:(cs++[l]).getD j 0=l:=by rw[List.getD_eq_getElem?_getD,List.getElem?_append_right (by lia),cl,Nat.sub_self];rfl
     rw[e,aF nD.symm,aB]
  rintro ys σ H2 ⟨⟨a,rfl⟩,sm,hDl,cs,rfl,cl,nd,hc,hr2⟩
  rw[List.length_map,bl] at cl hr2
  have fD:H D1=none:=hD1
  have cH:∀h,h<n→H (cs.getD h 0)=none∧cs.getD h 0≠D1:=fun h hh=>⟨(hc _ (fG (by lia))).1,(hc _ (fG (by lia))).2.1⟩
  have l16:=SD.le
  have nsa:=hp.neT hsa
  have nha:=hp.neT hha
  have npD:=hp.ne fD
  have npc:∀h,h<n→cs.getD h 0≠p:=fun h hh=>hp.ne (cH h hh).1
  dsimp only
  refine⟨by show 1≤sizeLine;decide,fun L1 hL1=>⟨_,rfl,sa,_,rfl,.inr (SqT.of ((sm.trans (aG hL1)) _ _ hsa)),L1,_,_,rfl,rfl,aB,by lia,by rw[List.length_map];lia,by rw[Int.toNat_natCast,List.length_singleton,List.length_map];exact Nat.le_trans (show 1*st.length≤32 by lia) (by decide),fun Fo hFo=>?_⟩⟩
  rw[Int.toNat_natCast,gO,List.length_map]
  have eM:List.replicate st.length V.non=(List.replicate st.length none).map oV:=by rw[List.map_replicate];rfl
  rw[eM]
  have sL1:=aG (o:=.lst [.non]) hL1
  have sm1:=sm.trans sL1
  have fF:=sm1.free hFo
  have npF:=hp.ne fF
  have nFD:Fo≠D1:=(aH (sL1 _ _ hDl) hFo).symm
  have nFc:∀h,h<n→cs.getD h 0≠Fo:=fun h hh=>aH (sL1 _ _ (hr2 h hh)) hFo
  have sF:=aG (o:=.lst ((List.replicate st.length none).map oV)) hFo
  have gF:=aB (H:=upd H2 L1 (.lst [.non])) (a:=Fo) (o:=.lst ((List.replicate st.length none).map oV))
  have gD:=sF _ _ (sL1 _ _ hDl)
  have gc:∀h,h<n→_:=fun h hh=>sF _ _ (sL1 _ _ (hr2 h hh))
  have sm2:=sm1.trans sF
  generalize upd (upd H2 L1 _) Fo _=H3 at *
  have hp3:=hp.same sm2
  refine⟨_,rfl,_,rfl,sa,_,rfl,.inr (SqT.of (sm2 _ _ hsa)),p,st.length,by rw[List.length_map];rfl,by lia,hp3,fun od os0 H4 s4 hp4 fod hod pm=>?_⟩
  refine⟨_,rfl,⟨_,SqL.of hod⟩,fun D2 hD2=>?_⟩
  have os0l:os0.length=st.length:=by rw[pm.length_eq,List.length_range]
  have hsa4:=s4 _ _ (sm2 _ _ hsa) nsa
  refine mQ (os:=os0) (fun i=>(st.getD i none).isSome) (fun σ=>∃b,σ=[b,some (.ref sa)]) hod hD2 (by lia) ⟨_,rfl⟩ ?_ ?_
  ·rintro x σ H5 Kt Kf hx ⟨b',rfl⟩ sm5 kt kf
   have hxl:x<st.length:=List.mem_range.mp (pm.mem_iff.mp hx)
   refine⟨_,rfl,_,rfl,sa,_,_,_,rfl,rfl,SqT.of (sm5 _ _ hsa4),aM (eT hxl),rfl,_,rfl,?_⟩
   cases ho:st.getD x none with
   |none=>exact iteF (kf _ _ ⟨_,rfl⟩ (Same.refl _) (by rw[ho];rfl))
   |some h=>exact iX rfl ⟨_,rfl,kt _ _ ⟨_,rfl⟩ (Same.refl _) (by rw[ho];rfl)⟩
  intro H5 s5 hD5
  have osn:(os0.filter fun i=>(st.getD i none).isSome).Nodup:=(pm.nodup_iff.mpr List.nodup_range).sublist (List.filter_sublist)
  have osm:∀j,j∈os0.filter (fun i=>(st.getD i none).isSome)↔j<st.length∧st.getD j none≠none:=fun j=>by
   rw[List.mem_filter,pm.mem_iff,List.mem_range]
   cases st.getD j none <;> simp
  have osl:(os0.filter fun i=>(st.getD i none).isSome).length≤16:=Nat.le_trans (List.length_filter_le _ _) (by lia)
  generalize (os0.filter fun i=>(st.getD i none).isSome)=os at *
  have s35:aI p H3 H5:=s4.trans (aI.of s5)
  have sH5:aI p H H5:=(aI.of sm2).trans s35
  have fD2:H D2=none:=((aI.of sm2).trans s4).free hp4.full hD2
  have npD2:=hp.ne fD2
  have hp5:=hp4.same s5
  have n2D:D2≠D1:=(aH (s4 _ _ gD npD) hD2).symm
  have n2F:D2≠Fo:=(aH (s4 _ _ gF npF) hD2).symm
  have n2c:∀h,h<n→cs.getD h 0≠D2:=fun h hh=>aH (s4 _ _ (gc h hh) (npc h hh)) hD2
  have iat:∀ {k i},(NV os)[k]?=some i→∃j h,i=V.int ((j:Nat):Int)∧os[k]?=some j∧j<st.length∧st.getD j none=some h∧h<n:=fun {k i} hk=>by
   obtain⟨j,hj,rfl⟩:=kF hk
   obtain⟨jl,jn⟩:=(osm j).mp (List.mem_of_getElem? hj)
   cases ho:st.getD j none with
   |none=>exact absurd ho jn
   |some h=>exact⟨j,h,rfl,hj,jl,ho,SD.ss h (by rw[← ho,List.getD_eq_getElem?_getD,List.getElem?_eq_getElem jl];exact List.getElem_mem _)⟩
  refine⟨_,rfl,⟨_,SqL.of hD5⟩,fP (K:=K) (xs:=NV os) (fun k σ Hc=>∃ (ls:Nat→List Nat) (fs:List (Option Nat)),(∃a b c,σ=[some (.ref p),some (.ref r),some (.ref fr),some (.ref ha),some (.ref sa),some (.ref D1),some (.ref Fo),a,b,c])∧aI p H Hc∧bB Hc p∧Hc D1=some (.lst (cs.map V.ref))∧Hc Fo=some (.lst (fs.map oV))∧Hc D2=some (.lst (NV os))∧LInv n ts st fs ls∧(∀h,h<n→Hc (cs.getD h 0)=some (.lst (NV (ls h))))∧(∀j,fs.getD j none≠none→j∈os.take k)∧∀j,j∈os.take k→fs.getD j none≠none) ⟨outN n ts,_,⟨_,_,_,rfl⟩,sH5,hp5,s35 _ _ gD npD,s35 _ _ gF npF,hD5,LInv.start,fun h hh=>s35 _ _ (gc h hh) (npc h hh),fun j hj=>absurd lR hj,fun j hj=>by simp at hj⟩ (fun k σ Hc _ z=>by obtain⟨_,_,_,_,_,_,_,z,_⟩:=z;exact SqL.of z) ?_ ?_⟩
  ·rintro k i σ Hc hk ⟨ls,fs,⟨a8,a9,a10,rfl⟩,sc,hpc,hDc,hFc,h2c,LI,hls,hset,hset2⟩
   obtain⟨j,h,rfl,hj,jl,ho,hh⟩:=iat hk
   have jf:fs.getD j none=none:=by
    cases e:fs.getD j none with
    |none=>rfl
    |some y=>
     have:=hset j (by rw[e];exact fun z=>by cases z)
     obtain⟨i',hi',ei⟩:=List.getElem_of_mem this
     rw[List.length_take] at hi'
     rw[List.getElem_take] at ei
     have hkk:=(List.getElem?_eq_some_iff.mp hj).2
     have:=(List.getElem_inj osn).mp (ei.trans hkk.symm)
     lia
   have fl:=LI.len
   have hsac:=sc _ _ hsa nsa
   have hhac:=sc _ _ hha nha
   have oi:(st.map oV)[j]?=some (.int (h:Int)):=by rw[eT jl,ho];rfl
   have hm:homes.getD j 0<n:=SD.hs _ (by rw[List.getD_eq_getElem?_getD,List.getElem?_eq_getElem (by rw[SD.len];exact jl)];exact List.getElem_mem _)
   have hh':=cZ (xs:=homes) (j:=j) (by rw[SD.len];exact jl)
   have RFc:bL Hc L' fr n (fun h=>(List.range n).map (far ts h)):=RF.keep hLf fun b o l e=>sc b o e fun z=>hLp (z ▸ l)
   obtain⟨es,e1,e2,e3⟩:=RFc
   have ge:∀k,k<n→(es.map V.ref)[k]?=some (.ref (es.getD k 0)):=fun k hk=>fO (by rw[e3.1];exact hk)
   have ch:=fO (bs:=cs) (h:=h) (by lia)
   have g1:=hls h hh
   have lp:0<(ls h).length:=LI.full jl ho hh jf (SD.cap h hh)
   have lsn:∀x∈ls h,x<n:=fun x hx=>aBm (by lia) (LI.sub h hh x hx)
   have lsl:(ls h).length≤32:=by have:=mO (n:=n) (ts:=ts) (h:=h);have:=LI.cnt h hh;lia
   refine⟨_,rfl,_,rfl,_,rfl,sa,_,_,_,rfl,rfl,SqT.of hsac,aM oi,D1,_,_,_,rfl,rfl,SqL.of hDc,aM ch,?_⟩
   refine⟨_,rfl,_,rfl,⟨_,SqL.of g1⟩,fun D3 hD3=>?_⟩
   refine aDE (os:=ls h) (fun y=>far ts y (homes.getD j 0)) (fun σ=>∃b,σ=[b,some (.ref fr),some (.ref ha),some (.int (j:Int))]) g1 hD3 (by lia) ⟨_,rfl⟩ ?_ ?_
   ·rintro x σ H6 Kt Kf hx ⟨b',rfl⟩ sm6 kt
    exact⟨_,rfl,_,rfl,fr,_,_,_,rfl,rfl,SqL.of (sm6 _ _ e1),aM (ge x (lsn x hx)),_,rfl,_,rfl,ha,_,_,_,rfl,rfl,SqT.of (sm6 _ _ hhac),aM hh',_,_,_,_,rfl,rfl,SqL.of (sm6 _ _ (e3.2 x (lsn x hx))),aM (jW hm),kt _ _ ⟨_,rfl⟩ (Same.refl _)⟩
   intro H6 s6 hD6
   have eN:NV ((ls h).map fun y=>far ts y (homes.getD j 0))=((ls h).map fun y=>((far ts y (homes.getD j 0):Nat):Int)).map V.int:=by unfold NV;rw[List.map_map,List.map_map];rfl
   rw[eN] at hD6
   refine⟨D3,_,rfl,SqL.of hD6,fun z=>?_,fun M hM _=>?_⟩
   ·have:=congrArg List.length z
    rw[List.length_map] at this
    exact absurd this (by simp;exact fun e=>by rw[e] at lp;exact absurd lp (by decide))
   obtain⟨y0,hy0,rfl⟩:=List.mem_map.mp hM
   dsimp only
   have g6:=s6 _ _ g1
   refine⟨_,rfl,_,rfl,⟨_,SqL.of g6⟩,fun D4 hD4=>?_⟩
   refine mQ (os:=ls h) (fun y=>decide (far ts y (homes.getD j 0)=far ts y0 (homes.getD j 0))) (fun σ=>∃b,σ=[b,some (.ref fr),some (.ref ha),some (.int (j:Int)),some (.int ((far ts y0 (homes.getD j 0):Nat):Int))]) g6 hD4 (by lia) ⟨_,rfl⟩ ?_ ?_
   ·rintro x σ H7 Kt Kf hx ⟨b',rfl⟩ sm7 kt kf
    have s67:=s6.trans sm7
    refine⟨_,rfl,_,rfl,fr,_,_,_,rfl,rfl,SqL.of (s67 _ _ e1),aM (ge x (lsn x hx)),_,rfl,_,rfl,ha,_,_,_,rfl,rfl,SqT.of (s67 _ _ hhac),aM hh',_,_,_,_,rfl,rfl,SqL.of (s67 _ _ (e3.2 x (lsn x hx))),aM (jW hm),_,rfl,rfl,_,rfl,?_⟩
    refine ite2 (fun c=>?_) (fun c=>?_)
    ·exact⟨_,rfl,kt _ _ ⟨_,rfl⟩ (Same.refl _) (decide_eq_true (by have:=of_decide_eq_true c;injection this with e;lia))⟩
    ·exact kf _ _ ⟨_,rfl⟩ (Same.refl _) (decide_eq_false fun z=>c (by rw[z];exact decide_eq_true rfl))
   intro H7 s7 hD7
   have gsm:∀x∈(ls h).filter (fun y=>decide (far ts y (homes.getD j 0)=far ts y0 (homes.getD j 0))),x∈ls h:=fun x hx=>(List.mem_filter.mp hx).1
   have gl:0<((ls h).filter (fun y=>decide (far ts y (homes.getD j 0)=far ts y0 (homes.getD j 0)))).length:=List.length_pos_of_mem (List.mem_filter.mpr ⟨hy0,decide_eq_true rfl⟩)
   generalize (ls h).filter _=gs at *
   have s8:=s6.trans s7
   have hp8:=hpc.same s8
   have sH8:=sc.trans (aI.of s8)
   have hym:gs.getD 0 0∈ls h:=gsm _ (by rw[List.getD_eq_getElem?_getD,List.getElem?_eq_getElem gl];exact List.getElem_mem _)
   have hF8:=s8 _ _ hFc
   refine⟨D4,_,_,_,rfl,rfl,SqL.of hD7,aM (j:=0) (cZ gl),_,rfl,_,rfl,Fo,_,(j:Int),j,rfl,rfl,hF8,cT (by rw[List.length_map];lia),?_⟩
   generalize gs.getD 0 0=y at *
   have hD8:=s8 _ _ hDc
   have h28:=s8 _ _ h2c
   have hl8:∀h,h<n→H7 (cs.getD h 0)=some (.lst (NV (ls h))):=fun h hh=>s8 _ _ (hls h hh)
   obtain⟨kk,hkk,gk,ek⟩:=aCB hym
   have eF:(fs.map oV).set j (.int (y:Int))=(fs.set j (some y)).map oV:=uX (o:=some y)
   rw[eF]
   have gF9:(upd H7 Fo (.lst ((fs.set j (some y)).map oV))) Fo=some (.lst ((fs.set j (some y)).map oV)):=aB
   have hD9:(upd H7 Fo (.lst ((fs.set j (some y)).map oV))) D1=some (.lst (cs.map V.ref)):=by rw[aF nFD.symm];exact hD8
   have h29:(upd H7 Fo (.lst ((fs.set j (some y)).map oV))) D2=some (.lst (NV os)):=by rw[aF n2F];exact h28
   have hl9:∀h,h<n→(upd H7 Fo (.lst ((fs.set j (some y)).map oV))) (cs.getD h 0)=some (.lst (NV (ls h))):=fun h hh=>by rw[aF (nFc h hh)];exact hl8 h hh
   have sH9:aI p H (upd H7 Fo (.lst ((fs.set j (some y)).map oV))):=aI.put sH8 fF
   have hp9:=hp8.put (o:=.lst ((fs.set j (some y)).map oV)) npF.symm
   generalize upd H7 Fo _=H9 at *
   have fj:((fs.set j (some y)).map oV)[j]?=some (.int (y:Int)):=by rw[eT (by rw[List.length_set];lia),fJ (by lia),if_pos rfl];rfl
   have gl9:H9 (cs.getD h 0)=some (.lst ((ls h).map (fun (x:Nat)=>(x:Int)) |>.map V.int)):=by rw[hl9 h hh,List.map_map];rfl
   refine⟨_,rfl,.inl ⟨rfl,_,SqL.of (hl9 h hh)⟩,_,rfl,_,rfl,Fo,_,_,_,rfl,rfl,SqL.of gF9,aM fj,cs.getD h 0,_,(y:Int),rfl,rfl,gl9,List.mem_map.mpr ⟨y,hym,rfl⟩,?_⟩
   rw[ek]
   obtain⟨q1,q2,q3,q4⟩:=pC (LI.nd h hh) hkk
   have ey:(ls h)[kk]=y:=by rw[List.getElem?_eq_getElem hkk] at gk;exact Option.some.inj gk
   rw[ey] at q1 q3
   refine⟨fun k=>if k=h then (ls h).eraseIdx kk else ls k,fs.set j (some y),⟨_,_,_,rfl⟩,aI.put sH9 (cH h hh).1,hp9.put (npc h hh).symm,by rw[aF (cH h hh).2.symm];exact hD9,by rw[aF (nFc h hh).symm];exact gF9,by rw[aF (n2c h hh).symm];exact h29,LI.step jl ho hh jf q1 q2 q3 q4,fun k' hk'=>?_,fun j' hj'=>?_,fun j' hj'=>?_⟩
   ·dsimp only
    by_cases c:k'=h
    ·subst c;rw[if_pos rfl,aB]
    ·rw[if_neg c,aF (rW nd (by lia) (by lia) c)];exact hl9 k' hk'
   ·rw[dU hj]
    rw[fJ (by lia)] at hj'
    by_cases c:j'=j
    ·rw[c];exact List.mem_append_right _ List.mem_cons_self
    ·rw[if_neg c] at hj';exact List.mem_append_left _ (hset j' hj')
   ·rw[dU hj] at hj'
    rw[fJ (by lia)]
    by_cases c:j'=j
    ·rw[if_pos c];exact fun z=>by cases z
    ·rw[if_neg c]
     rcases List.mem_append.mp hj' with z|z
     ·exact hset2 j' z
     ·exact absurd (List.mem_singleton.mp z) c
  ·rintro σ Hc ⟨ls,fs,⟨a8,a9,a10,rfl⟩,sc,hpc,hDc,hFc,h2c,LI,hls,_,hset⟩
   refine⟨_,rfl,Fo,_,rfl,.inl ⟨SqL.of hFc,fun t ht=>?_⟩⟩
   have st':=aG (o:=.tup (fs.map oV)) ht
   rw[aU,List.take_length] at hset
   refine q t fs _ (sc.trans (aI.of st')) (hpc.same st') aB (LI.done fun j hj=>hset j ((osm j).mpr ⟨?_,hj⟩))
   rcases Nat.lt_or_ge j st.length with c|c
   ·exact c
   ·exact absurd (by rw[List.getD_eq_getElem?_getD,List.getElem?_eq_none c];rfl) hj
end
end K12
namespace K12
open PySem L2 NetM
abbrev sLaw:Stmt:=top 45
theorem kN:(["_law_there","_law_home"]:List Str).Nodup:=by decide +kernel
theorem aEq{o:Option Nat}{h:Nat}:scal (oV o) (.int (h:Int))=true:=by cases o <;> rfl
theorem aE0{o:Option Nat}{h:Nat}:decide (oV o=V.int (h:Int))=decide (o=some h):=by
 cases o with
 |none=>exact decide_eq_decide.mpr ⟨(fun z=>by cases z),(fun z=>by cases z)⟩
 |some y=>exact decide_eq_decide.mpr ⟨(fun z=>by injection z with z;exact congrArg some (Int.ofNat.inj z)),(fun z=>by cases z;rfl)⟩
theorem aDF{n:Nat}{ts:Ts}(F:Fine n ts):ts≠[]:=by
 rintro rfl
 obtain⟨k,w⟩:=F.con 0 1 (by have:=F.n1;lia) (by have:=F.n1;lia)
 cases k with
 |zero=>exact absurd (show (0:Nat)=1 from w) (by decide)
 |succ k=>
  unfold Walk at w
  obtain⟨c,w⟩:=w
  first|exact absurd w.1 (by unfold T;exact List.not_mem_nil)|exact absurd w.2 (by unfold T;exact List.not_mem_nil)
theorem cQ.weak{C p:Addr}{H:Hp}{L L':Addr→Prop}{n:Nat}{ts:Ts}(N:cQ C H L p n ts)(k:∀b,L b→L' b):cQ C H L' p n ts:=by
 obtain⟨F',dx',tl,ol,ds,q1,q2,q3,⟨b1,c1,d1,e1⟩,⟨b2,c2,d2,e2⟩,⟨a3,zs,b3,c3,d3,e3⟩⟩:=N
 exact⟨F',dx',tl,ol,ds,q1,k _ q2,k _ q3,⟨b1,c1,fun b hb=>k b (d1 b hb),e1⟩,⟨b2,c2,fun b hb=>k b (d2 b hb),e2⟩,⟨k _ a3,zs,b3,c3,fun z hz=>k _ (d3 z hz),e3⟩⟩
theorem aDG{homes:List Nat}{fs:List (Option Nat)}{i:Nat}(h:i<fs.length):((nxS homes fs).map oV)[i]?=some (if fs.getD i none=some (homes.getD i 0) then V.non else oV (fs.getD i none)):=by
 unfold nxS
 rw[List.getElem?_map,List.getElem?_map,List.getElem?_range h]
 show some (oV (if _ then none else _))=_
 split <;> rfl
section
variable {P:Program} {w:World} {K:PySem.W.Frag} {mg:Str→Option Value} {base:Heap}
def SqF(K:PySem.W.Frag)(H:Hp)(a:Addr)(xs:List V):Prop:=(∃o,H a=some (.frz o (.lst xs)))∨(∀H':Hp,SqL K H' a xs)
theorem SqF.seq{H:Hp}{a:Addr}{xs:List V}(h:SqF K H a xs):SqL K H a xs:=by
 rcases h with ⟨o,h⟩|h
 ·exact .inl (.inr ⟨o,h⟩)
 ·exact h H
theorem SqF.mono{H H':Hp}{a:Addr}{xs:List V}(h:SqF K H a xs)(e:∀o u,H a=some (.frz o u)→H' a=some (.frz o u)):SqF K H' a xs:=by
 rcases h with ⟨o,h⟩|h
 ·exact .inl ⟨o,e _ _ h⟩
 ·exact .inr h
theorem Tab.keepE{p Pt:Addr}{H H':Hp}(t:Tab Pt H)(s:aI p H H')(hp:bB H p):Tab Pt H':=by
 obtain⟨a,b,e,_⟩:=hp
 rcases t with z|⟨c,z,y⟩
 ·exact .inl (s _ _ z (by rintro rfl;rw[z] at e;cases e))
 ·exact .inr ⟨c,s _ _ z (by rintro rfl;rw[z] at e;cases e),s _ _ y (by rintro rfl;rw[y] at e;cases e)⟩
theorem dD:aZ ["_law_script","_law_k","_law_pot_here","_law_way","_law_many","_law_n","_law_ties","_law_outs_here","_law_far_here","_law_homes","_law_stand_here","_law_wider_here","_law_net_here","_law_more","_law_nearer","_law_beat","_law_handing"] ["_law_script"] (aN sLaw):=⟨rfl,rfl,rfl,by decide +kernel,rfl,by decide +kernel,by decide +kernel⟩
def rX(K:PySem.W.Frag)(Pt:Addr):Sp:=fun vs H Q _=>∃ (a:Addr) (ns:List Int),vs=[.ref a]∧SqF K H a (ns.map V.int)∧ns.length≤63∧Tab Pt H∧∀H',Q (.bl true) H'
theorem aEr{f C Pt fI:Addr}{fd fdI:FuncData}(F:Fun K "law" "law" sLaw f fd)(B:Bl mg)(B2:Bl2 mg)(T:NT K mg C)(M:Mk K C fI)(bI:fY K fdI ["self","many","ties"] [])(GI:FnOk P w K mg base CX0 7 fI fdI ["self","many","ties"] (uD C Pt))(PT:Cal P w K mg base CX0 1 "_law_pot" ["_law_script","_law_k"] (zJ K))(D:Cal P w K mg base CX0 1 "_law_take" ["_law_pot_here","_law_many"] dZ)(NE:Cal P w K mg base CX0 4 "_law_net" ["_law_pot_here"] zU)(OU:Cal P w K mg base CX0 1 "_law_outs" ["_law_n","_law_ties"] qD)(LF:Cal P w K mg base CX0 1 "_law_far" ["_law_n","_law_outs_here"] uR)(ST:Cal P w K mg base CX0 2 "_law_stand" ["_law_pot_here","_law_n","_law_outs_here"] qE)(WI:Cal P w K mg base CX0 2 "_law_wider" ["_law_pot_here","_law_n","_law_ties","_law_outs_here"] qI)(EA:Cal P w K mg base CX0 3 "_law_eager" ["_law_pot_here","_law_outs_here","_law_far_here","_law_homes","_law_stand_here"] iG)(RI:Cal P w K mg base CX0 2 "_law_right" ["_law_pot_here","_law_outs_here","_law_stand_here"] qG)(AS:Cal P w K mg base CX0 3 "_law_astray" ["_law_pot_here","_law_outs_here","_law_far_here","_law_homes","_law_stand_here"] iG)(RL:Cal P w K mg base CX0 8 "_law_right_led" ["_law_net_here","_law_far_here","_law_homes","_law_stand_here","_law_handing"] (spRL C)):
  FnOk P w K mg base CX0 9 f fd ["_law_script"] (rX K Pt):=by
 refine F.ok dD (fun vs H Q E h=>?_) (fun cdv A outer s H vs Q E hr h=>?_)
 ·obtain⟨a,ns,rfl,_⟩:=h
  rfl
 ·obtain⟨a,ns,rfl,hS,hns,tb,q⟩:=h
  have h1:Room 1 _:=hr.mono (by decide)
  have h2:Room 2 _:=hr.mono (by decide)
  have h3:Room 3 _:=hr.mono (by decide)
  have h4:Room 4 _:=hr.mono (by decide)
  refine'⟨_,(aE (cA PassesOwn.never rfl (bN rfl B.range (aA (aS (iU rfl) (by rfl) B.max PyProof.Rows.boot_max (aA aK (aA (aS (qL rfl) (by rfl) B.min PyProof.Rows.boot_min (aA aK (aA (aS aW (by rfl) B.len PySem.boot_len (aA (pv 0) aD)) aD))) aD))) aD)) (aL (i:=1) dD.nd rfl (Or.inl rfl))
    (aE (aO (i:=2) dD.nd rfl (Or.inl rfl) (aQ PT h1 aT (aA (pv 0) (aA (pv 1) aD))))
    (aE (aO (i:=3) dD.nd rfl (Or.inl rfl) (aQ D h1 aT (aA (pv 2) (aA aK aD))))
    (aE (aO (i:=4) dD.nd rfl (Or.inl rfl) (aY cL aK (aQ D h1 aT (aA (pv 2) (aA aK aD)))))
    (aE (cK (aQ NE h4 aT (aA (pv 2) aD)) (dR (n:=2) rfl (bC (aL (i:=5) dD.nd rfl (Or.inl rfl)) (bC (aL (i:=6) dD.nd rfl (Or.inl rfl)) cR))))
    (aE (aO (i:=7) dD.nd rfl (Or.inl rfl) (aQ OU h1 aT (aA (pv 5) (aA (pv 6) aD))))
    (aE (aO (i:=8) dD.nd rfl (Or.inl rfl) (aQ LF h1 aT (aA (pv 5) (aA (pv 7) aD))))
    (aE (cK (aQ ST h2 aT (aA (pv 2) (aA (pv 5) (aA (pv 7) aD)))) (dR (n:=2) rfl (bC (aL (i:=9) dD.nd rfl (Or.inl rfl)) (bC (aL (i:=10) dD.nd rfl (Or.inl rfl)) cR))))
    (aE (aO (i:=11) dD.nd rfl (Or.inl rfl) (aQ WI h2 aT (aA (pv 2) (aA (pv 5) (aA (pv 6) (aA (pv 7) aD))))))
    (aE (rZ (i:=12) (j:=13) rfl dD.nd rfl rfl (by decide) rfl rfl (aA (vZ M GI hr rfl T.mgC bI .nil aT (aA (pv 5) (aA (pv 6) aD))) (aA (vZ M GI hr rfl T.mgC bI .nil aT (aA (pv 5) (aA (pv 11) aD))) aD)) (by rfl))
    (aE (aO (i:=14) dD.nd rfl (Or.inl rfl) (aQ LF h1 aT (aA (pv 5) (aA (aQ OU h1 aT (aA (pv 5) (aA (pv 11) aD))) aD))))
    (aE (bS (aAn PySem.F.plainAttrs_list PySem.F.slot_list_reverse PySem.F.type_list_reverse yB (pv 6)))
    (aE (bS (aAn PySem.F.plainAttrs_list PySem.F.slot_list_pop PySem.F.type_list_pop aDU (pv 6)))
    (aJ (cA PassesOwn.never rfl (bN rfl B.range (aA (pv 4) aD)) (aL (i:=15) dD.nd rfl (Or.inl rfl))
     (aE (aO (i:=16) dD.nd rfl (Or.inl rfl) (aQ EA h3 aT (aA (pv 2) (aA (pv 7) (aA (pv 8) (aA (pv 9) (aA (pv 10) aD)))))))
     (aE (bR (aV dM (pv 3) aK (aX _)) (aJ (aO (i:=16) dD.nd rfl (Or.inl rfl) (aQ RI h2 aT (aA (pv 2) (aA (pv 7) (aA (pv 10) aD)))))) bD)
     (aE (bR (PW.pt (nV (aV dM (pv 3) aK (aX _)) (nU (PW.pt (iI (aV dM (pv 3) aK (aX _)) (iA (aV dM (aY eJ (pv 15) aK) aK (aX _)))))))) (aJ (aO (i:=16) dD.nd rfl (Or.inl rfl) (aQ AS h3 aT (aA (pv 2) (aA (pv 7) (aA (pv 8) (aA (pv 9) (aA (pv 10) aD)))))))) bD)
     (aE (bR (gZ (eU (aQ RL hr aT (aA (pv 12) (aA (pv 8) (aA (pv 9) (aA (pv 10) (aA (pv 16) aD)))))))) (aJ (bA jX)) bD)
     (aE (bR (gZ (eU (aQ RL hr aT (aA (pv 13) (aA (pv 14) (aA (pv 9) (aA (pv 10) (aA (pv 16) aD)))))))) (aJ (bA jX)) bD)
     (aJ (aO (i:=10) dD.nd rfl (Or.inl rfl) (cD dO (by rfl) B.tup PyProof.Rows.boot_tuple (aA ?c1 aD))))))))))))))))))))))))
   (aJ (bA jX))),?_⟩
  case c1=>
   refine' bV (g:=(gTup K 2 (fW (bG 0) (fW (bG 1) gNil)))) (te:=(tIf (fL (tOp (rEq) (tVar 0) (tVar 1))) (tC .non) (tVar 0))) (NB:=["_law_there","_law_home"]) (src:=[none,none]) (bH (by kernel_rfl)) rfl (aC1 rfl B2.zip (aA (pv 16) (aA (pv 9) aD))) ?g ?t ?e
   case g=>exact fun cl C s₃ H₃ fp=>(dR (n:=2) rfl (bC (aL (i:=0) kN rfl (Or.inl rfl) (Or.inr rfl)) (bC (aL (i:=1) kN rfl (Or.inl rfl) (Or.inr rfl)) cR)))
   case t=>exact fun cl C s₃ H₃ fp=>bZ
   case e=>exact fun cl C s₃ H₃ fp=>(aBs (aV dM (pv 0) (pv 1) (aX _)) dQ (pv 0))
  refine⟨_,rfl,a,_,rfl,.inl hS.seq,5,_,rfl,2,_,rfl,_,rfl,?_⟩
  obtain⟨j,hj,j1⟩:∃j:Int,(if (if (((ns.map V.int).length:Nat):Int)<5 then (((ns.map V.int).length:Nat):Int) else 5) > 2 then (if (((ns.map V.int).length:Nat):Int)<5 then (((ns.map V.int).length:Nat):Int) else 5) else 2)=j∧1≤j∧j≤5:=⟨_,rfl,by split <;> split <;> lia⟩
  rw[hj]
  refine⟨by lia,by lia,cI (n:=j.toNat) (lo:=0) (fun k σ H2=>(∃x1 x2 x3 x4 x5 x6 x7 x8 x9 x10 x11 x12 x13 x14 x15 x16,σ=[some (.ref a),x1,x2,x3,x4,x5,x6,x7,x8,x9,x10,x11,x12,x13,x14,x15,x16])∧SqF K H2 a (ns.map V.int)∧Tab Pt H2) ⟨⟨_,_,_,_,_,_,_,_,_,_,_,_,_,_,_,_,rfl⟩,hS,tb⟩ ?_ ?_⟩
  rotate_left
  ·rintro σ H2 _
   exact q H2
  ·rintro k σ H2 hk ⟨⟨x1,x2,x3,x4,x5,x6,x7,x8,x9,x10,x11,x12,x13,x14,x15,x16,rfl⟩,S2,t2⟩
   refine⟨_,rfl,_,rfl,a,ns,k,by rw[Int.zero_add];rfl,S2.seq,by lia,fun p H3 s3 np p3=>?_⟩
   have S3:SqF K H3 a (ns.map V.int):=S2.mono fun o u e=>s3 _ _ e
   have t3:=t2.same s3
   have np3:∀ {o u},H3 a=some (.frz o u)→a≠p:=fun e z=>by subst z;obtain⟨x,y,e',_⟩:=p3;rw[e] at e';cases e'
   refine⟨_,rfl,p,4,rfl,by decide,by decide,p3,fun wy H4 hwy s4 p4=>?_⟩
   refine⟨_,rfl,p,8,rfl,by decide,by decide,p4,fun mn H0 hmn s4' p0=>⟨_,_,rfl,rfl,?_⟩⟩
   have s30:=s4.trans s4'
   have t0:=t3.keepE s30 p3
   refine⟨_,rfl,p,rfl,p0,fun tn r n zs H5 s5 p5 htn htn5 hrn hr5 po5 Fi=>?_⟩
   have nrp:r≠p:=p0.ne hrn
   have n1:1≤n:=by have:=Fi.n1;lia
   refine⟨tn,_,rfl,SqT.of htn5,rfl,_,_,rfl,_,_,rfl,rfl,?_⟩
   refine⟨_,rfl,_,rfl,n,r,zs,rfl,hr5,po5,Fi,fun oo H6 s6 hoo R6=>?_⟩
   have p6:=p5.same s6
   refine⟨_,rfl,_,rfl,_,oo,n,zp zs,rfl,Fi,R6,fun fr H7 s7 hfr R7=>?_⟩
   have p7:=p6.same s7
   have R67:bL H7 (fun b=>H5 b=none) oo n (outN n (zp zs)):=R6.same s7
   refine⟨_,rfl,_,rfl,_,rfl,p,n,oo,zp zs,_,rfl,Fi.n1,Fi.n2,p7,R67,hoo,p5.full,fun t2' ha sa homes st H8 s8 p8 ht2 hha hsa SD=>?_⟩
   refine⟨t2',_,rfl,SqT.of ht2,rfl,_,_,rfl,_,_,rfl,rfl,?_⟩
   have s58:aI p H5 H8:=((aI.of s6).trans (aI.of s7)).trans s8
   have R68:bL H8 (fun b=>H5 b=none) oo n (outN n (zp zs)):=R67.keep hoo fun b o l e=>s8 b o e fun z=>p5.full (z ▸ l)
   refine⟨_,rfl,_,rfl,_,rfl,_,rfl,p,n,r,zs,oo,_,rfl,p8,s58 _ _ hr5 nrp,nrp,po5.sameE s58 p5,Fi,R68,hoo,p5.full,fun r2 zs2 H9 s9 p9 fr2' hr9 po9 Fi2=>?_⟩
   have s59:=s58.trans s9
   have s39:aI p H3 H9:=(s30.trans s5).trans s59
   have t9:=t3.keepE s39 p3
   have S9:SqF K H9 a (ns.map V.int):=S3.mono fun o u e=>s39 _ _ e (np3 e)
   have hr9':=s59 _ _ hr5 nrp
   have R9:bL H9 (fun b=>H5 b=none) oo n (outN n (zp zs)):=R68.keep hoo fun b o l e=>s9 b o e fun z=>p5.full (z ▸ l)
   have s79:aI p H7 H9:=s8.trans s9
   have RF9:bL H9 (fun b=>H6 b=none) fr n (fun h=>(List.range n).map (far (zp zs) h)):=R7.keep hfr fun b o l e=>s79 b o e fun z=>p6.full (z ▸ l)
   have hha9:=s9 _ _ hha (p8.neT hha)
   have hsa9:=s9 _ _ hsa (p8.neT hsa)
   dsimp only
   refine⟨_,rfl,_,rfl,fun px dx nx ndx nex=>?_⟩
   have sN:Same H9 (upd (upd H9 dx (.own px)) px (.ins C dx [])):=(aG (o:=.own px) ndx).trans (aG (D:=px) (o:=.ins C dx []) (by rw[aF nex.symm];exact nx))
   have gpx:(upd (upd H9 dx (.own px)) px (.ins C dx [])) px=some (.ins C dx []):=aB
   refine⟨px,dx,n,r,zs,rfl,gpx,⟨Fi,sN _ _ hr9',(po5.sameE s59 p5).same sN⟩,t9.same sN,fun H10 N10 t10 s10=>⟨rfl,?_⟩⟩
   have tN:=t9.same sN
   have nPx:px≠Pt:=fun z=>t9.full (z ▸ nx)
   have kp1:∀b o,H9 b=some o→b≠Pt→H10 b=some o:=fun b o e nt=>s10 b o (sN _ _ e) (aH e nx) nt
   have nP:∀ {b o},H9 b=some o→(∀ps,o≠.tbl ps)→b≠Pt:=fun e nt=>t9.not e nt
   have L1:∀b,(upd (upd H9 dx (.own px)) px (.ins C dx [])) b=none→H9 b=none∧b≠Pt:=fun b l=>⟨sN.free l,fun z=>tN.full (z ▸ l)⟩
   have N10':cQ C H10 (fun b=>H9 b=none∧b≠Pt) px n (zp zs):=N10.weak L1
   have hr10:=kp1 _ _ hr9 (nP hr9 (by intro ps z;cases z))
   have po10:PO H10 zs2:=fun z hz=>kp1 _ _ (po9 z hz) (nP (po9 z hz) (by intro ps z;cases z))
   refine⟨_,rfl,_,rfl,fun py dy ny ndy ney=>?_⟩
   have sM:Same H10 (upd (upd H10 dy (.own py)) py (.ins C dy [])):=(aG (o:=.own py) ndy).trans (aG (D:=py) (o:=.ins C dy []) (by rw[aF ney.symm];exact ny))
   have gpy:(upd (upd H10 dy (.own py)) py (.ins C dy [])) py=some (.ins C dy []):=aB
   refine⟨py,dy,n,r2,zs2,rfl,gpy,⟨Fi2,sM _ _ hr10,po10.same sM⟩,t10.same sM,fun H11 N11 t11 s11=>⟨rfl,?_⟩⟩
   have tM:=t10.same sM
   have nPy:py≠Pt:=fun z=>t10.full (z ▸ ny)
   have kp2:∀b o,H10 b=some o→b≠Pt→H11 b=some o:=fun b o e nt=>s11 b o (sM _ _ e) (aH e ny) nt
   have N11':cQ C H11 (fun b=>H10 b=none∧b≠Pt) py n (zp zs2):=N11.weak fun b l=>⟨sM.free l,fun z=>tM.full (z ▸ l)⟩
   have N1:cQ C H11 (fun b=>H9 b=none∧b≠Pt) px n (zp zs):=N10'.keep (fun b o l e=>kp2 b o e l.2) (fun o e=>kp2 px o e nPx)
   have hr11:=kp2 _ _ hr10 (nP hr9 (by intro ps z;cases z))
   have po11:PO H11 zs2:=fun z hz=>kp2 _ _ (po10 z hz) (nP (po9 z hz) (by intro ps z;cases z))
   refine⟨_,_,rfl,?_⟩
   refine⟨_,rfl,_,rfl,_,rfl,n,r2,zs2,rfl,hr11,po11,Fi2,fun oo2 H12 s12 hoo2 R12=>⟨_,oo2,n,zp zs2,rfl,Fi2,R12,fun fr2 H13 s13 hfr2 R13=>?_⟩⟩
   have nPr:r≠Pt:=nP hr9' (by intro ps z;cases z)
   have hr10r:=kp1 _ _ hr9' nPr
   have hr12r:=s12 _ _ (kp2 _ _ hr10r nPr)
   have hr13r:=s13 _ _ hr12r
   have zl:0<((zr zs).reverse).length:=by
    rw[List.length_reverse,cF]
    rcases zs with _|⟨z,zs⟩
    ·exact absurd rfl (aDF Fi)
    ·simp
   refine⟨_,rfl,.inl ⟨rfl,_,SqL.of hr13r⟩,r,_,rfl,rfl,hr13r,?_⟩
   refine⟨_,rfl,.inl ⟨rfl,_,SqL.of aB⟩,r,_,_,rfl,rfl,aB,List.getElem?_eq_getElem (show ((zr zs).reverse).length-1<_ by lia),?_⟩
   have k15:∀b o,b≠r→H13 b=some o→(upd (upd H13 r (.lst (zr zs).reverse)) r (.lst ((zr zs).reverse).dropLast)) b=some o:=fun b o n e=>by rw[aF n,aF n];exact e
   generalize upd (upd H13 r _) r _=Hb at *
   have k13:∀b o,H11 b=some o→H13 b=some o:=fun b o e=>s13 _ _ (s12 _ _ e)
   have FK:∀b o,H9 b=some o→b≠Pt→b≠r→Hb b=some o:=fun b o e x y=>k15 b o y (k13 _ _ (kp2 _ _ (kp1 _ _ e x) x))
   have nrl:∀ {b o},H9 b=some o→(∀l,o≠.lst l)→b≠r:=fun e nt z=>by rw[z,hr9'] at e;exact nt _ (Option.some.inj e).symm
   have NB1:cQ C Hb (fun b=>H9 b=none∧b≠Pt) px n (zp zs):=N1.keep (fun b o l e=>k15 b o (aH hr9' l.1).symm (k13 _ _ e)) (fun o e=>k15 px o (aH hr9' nx).symm (k13 _ _ e))
   have NB2:cQ C Hb (fun b=>H10 b=none∧b≠Pt) py n (zp zs2):=N11'.keep (fun b o l e=>k15 b o (aH hr10r l.1).symm (k13 _ _ e)) (fun o e=>k15 py o (aH hr10r ny).symm (k13 _ _ e))
   have t5:=t0.keepE s5 p0
   have t6:=t5.same s6
   have ROb:bL Hb (fun b=>H5 b=none) oo n (outN n (zp zs)):=R9.keep hoo fun b o l e=>FK b o e (fun z=>t5.full (z ▸ l)) (aH hr5 l).symm
   have RFb:bL Hb (fun b=>H6 b=none) fr n (fun h=>(List.range n).map (far (zp zs) h)):=RF9.keep hfr fun b o l e=>FK b o e (fun z=>t6.full (z ▸ l)) (aH (s6 _ _ hr5) l).symm
   have RF2b:bL Hb (fun b=>H12 b=none) fr2 n (fun h=>(List.range n).map (far (zp zs2) h)):=R13.keep hfr2 fun b o l e=>k15 b o (aH hr12r l).symm e
   have hhab:=FK _ _ hha9 (nP hha9 (by intro ps z;cases z)) (nrl hha9 (by intro ps z;cases z))
   have hsab:=FK _ _ hsa9 (nP hsa9 (by intro ps z;cases z)) (nrl hsa9 (by intro ps z;cases z))
   have Sb:SqF K Hb a (ns.map V.int):=S9.mono fun o u e=>FK _ _ e (nP e (by intro ps z;cases z)) (nrl e (by intro ps z;cases z))
   have t13:=(t11.same s12).same s13
   have tB:Tab Pt Hb:=by
    rcases t13 with z|⟨c,z,y⟩
    ·exact .inl (k15 _ _ nPr.symm z)
    ·exact .inr ⟨c,k15 _ _ nPr.symm z,k15 _ _ (fun e=>by rw[e,hr13r] at y;cases y) y⟩
   have pb:bB Hb p:=by
    obtain⟨x,y,e,rr⟩:=p9
    exact⟨x,y,FK p _ e (nP e (by intro ps z;cases z)) nrp.symm,rr⟩
   have L12:∀b,H12 b=none→b≠p:=fun b l z=>by
    obtain⟨x,y,e,rr⟩:=p9
    rw[z,s12 _ _ (kp2 _ _ (kp1 _ _ e (nP e (by intro ps z;cases z))) (nP e (by intro ps z;cases z)))] at l;cases l
   have pxp:px≠p:=p9.ne nx
   have p10:H10 p≠none:=by
    obtain⟨x,y,e,rr⟩:=p9
    rw[kp1 _ _ e (nP e (by intro ps z;cases z))];exact fun z=>by cases z
   have pyp:py≠p:=fun z=>p10 (z ▸ ny)
   have hhap:ha≠p:=p8.neT hha
   dsimp only
   refine⟨_,rfl,1+(mn:Int),rfl,by lia,by lia,?_⟩
   refine cI (n:=(1+(mn:Int)).toNat) (lo:=0) (fun i σ Hc=>∃ (sa:Addr) (st:List (Option Nat)),(∃u v,σ=[some (.ref a),some (.int (0+(k:Int))),some (.ref p),some (.int (wy:Int)),some (.int (1+(mn:Int))),some (.int (n:Int)),some (.ref r),some (.ref oo),some (.ref fr),some (.ref ha),some (.ref sa),some (.ref r2),some (.ref px),some (.ref py),some (.ref fr2),u,v])∧aI p Hb Hc∧bB Hc p∧Hc sa=some (.tup (st.map oV))∧Stnd n (zp zs) homes st) ⟨sa,st,⟨_,_,rfl⟩,aI.refl,pb,hsab,SD⟩ ?_ ?_
   rotate_left
   ·rintro σ Hc ⟨sa,st,⟨u,v,rfl⟩,sc,_⟩
    exact⟨⟨_,_,_,_,_,_,_,_,_,_,_,_,_,_,_,_,rfl⟩,Sb.mono fun o u e=>sc _ _ e (by rintro rfl;obtain⟨x,y,e',_⟩:=pb;rw[e] at e';cases e'),tB.keepE sc pb⟩
   ·clear hsa hsa9 hsab SD
    rintro i σ Hc hi ⟨sa,st,⟨u,v,rfl⟩,sc,hpc,hsac,SD⟩
    have nsa:=hpc.neT hsac
    have RO:∀Hc,aI p Hb Hc→bL Hc (fun b=>H5 b=none) oo n (outN n (zp zs)):=fun Hc sc=>ROb.keep hoo fun b o l e=>sc b o e fun z=>p5.full (z ▸ l)
    have RF:∀Hc,aI p Hb Hc→bL Hc (fun b=>H6 b=none) fr n (fun h=>(List.range n).map (far (zp zs) h)):=fun Hc sc=>RFb.keep hfr fun b o l e=>sc b o e fun z=>p6.full (z ▸ l)
    refine gX (fun σ H1=>∃ (fa:Addr) (fs:List (Option Nat)),σ=[some (.ref a),some (.int (0+(k:Int))),some (.ref p),some (.int (wy:Int)),some (.int (1+(mn:Int))),some (.int (n:Int)),some (.ref r),some (.ref oo),some (.ref fr),some (.ref ha),some (.ref sa),some (.ref r2),some (.ref px),some (.ref py),some (.ref fr2),some (.int (0+(i:Int))),some (.ref fa)]∧aI p Hb H1∧bB H1 p∧H1 sa=some (.tup (st.map oV))∧H1 fa=some (.tup (fs.map oV))∧Hd n (zp zs) st fs) ?_ (fun N hN=>⟨_,rfl,_,rfl,_,rfl,_,rfl,_,rfl,p,oo,fr,n,zp zs,_,_,ha,sa,homes,st,rfl,Fi,hpc,RO _ sc,RF _ sc,hfr,p6.full,sc _ _ hhab hhap,hsac,SD,fun fa fs H1 s1 hp1 hfa hd=>hN _ _ ⟨fa,fs,rfl,sc.trans s1,hp1,s1 _ _ hsac nsa,hfa,hd⟩⟩)
    rintro σ H1 ⟨fa,fs,rfl,s1,hp1,hsa1,hfa,hd⟩
    refine gX (fun σ H1=>∃ (fa:Addr) (fs:List (Option Nat)),σ=[some (.ref a),some (.int (0+(k:Int))),some (.ref p),some (.int (wy:Int)),some (.int (1+(mn:Int))),some (.int (n:Int)),some (.ref r),some (.ref oo),some (.ref fr),some (.ref ha),some (.ref sa),some (.ref r2),some (.ref px),some (.ref py),some (.ref fr2),some (.int (0+(i:Int))),some (.ref fa)]∧aI p Hb H1∧bB H1 p∧H1 sa=some (.tup (st.map oV))∧H1 fa=some (.tup (fs.map oV))∧Hd n (zp zs) st fs) ?_ (fun N hN=>⟨_,rfl,rfl,_,rfl,ite2 (fun c=>⟨_,rfl,_,rfl,_,rfl,p,oo,n,zp zs,_,sa,homes,st,rfl,Fi,n1,Fi.n2,hp1,RO _ s1,hsa1,SD,fun fa fs H2 s2 hp2 hfa hd=>hN _ _ ⟨fa,fs,rfl,s1.trans s2,hp2,s2 _ _ hsa1 nsa,hfa,hd⟩⟩) (fun c=>hN _ _ ⟨fa,fs,rfl,s1,hp1,hsa1,hfa,hd⟩)⟩)
    clear hfa hd hsa1 hp1 s1
    rintro σ H1 ⟨fa,fs,rfl,s1,hp1,hsa1,hfa,hd⟩
    refine gX (fun σ H1=>∃ (fa:Addr) (fs:List (Option Nat)),σ=[some (.ref a),some (.int (0+(k:Int))),some (.ref p),some (.int (wy:Int)),some (.int (1+(mn:Int))),some (.int (n:Int)),some (.ref r),some (.ref oo),some (.ref fr),some (.ref ha),some (.ref sa),some (.ref r2),some (.ref px),some (.ref py),some (.ref fr2),some (.int (0+(i:Int))),some (.ref fa)]∧aI p Hb H1∧bB H1 p∧H1 sa=some (.tup (st.map oV))∧H1 fa=some (.tup (fs.map oV))∧Hd n (zp zs) st fs) ?_ (fun N hN=>?_)
    rotate_left
    ·refine if_k (fun H=>H=H1) (fun H=>H=H1) ?_ ?_ ?_
     ·rintro H rfl
      exact⟨_,rfl,_,rfl,_,rfl,_,rfl,_,rfl,p,oo,fr,n,zp zs,_,_,ha,sa,homes,st,rfl,Fi,hp1,RO _ s1,RF _ s1,hfr,p6.full,s1 _ _ hhab hhap,hsa1,SD,fun fa fs H2 s2 hp2 hfa hd=>hN _ _ ⟨fa,fs,rfl,s1.trans s2,hp2,s2 _ _ hsa1 nsa,hfa,hd⟩⟩
     ·rintro H rfl
      exact hN _ _ ⟨fa,fs,rfl,s1,hp1,hsa1,hfa,hd⟩
     ·intro Y N' hY hN'
      refine⟨_,rfl,rfl,_,rfl,ite2 (fun c=>iteT (hY _ rfl)) (fun c=>⟨_,rfl,rfl,_,rfl,ite2 (fun c2=>⟨_,rfl,_,_,rfl,rfl,by show (0:Int)<2;decide,rfl,_,rfl,ite2 (fun c3=>hY _ rfl) (fun c3=>hN' _ rfl)⟩) (fun c2=>iteF (hN' _ rfl))⟩)⟩
    clear hfa hd hsa1 hp1 s1
    rintro σ H1 ⟨fa,fs,rfl,s1,hp1,hsa1,hfa,hd⟩
    have G:=hd.goes Fi SD
    have NC1:cQ C H1 (fun b=>H9 b=none∧b≠Pt) px n (zp zs):=NB1.keep (fun b o l e=>s1 b o e fun z=>p9.full (z ▸ l.1)) (fun o e=>s1 px o e pxp)
    have NC2:cQ C H1 (fun b=>H10 b=none∧b≠Pt) py n (zp zs2):=NB2.keep (fun b o l e=>s1 b o e fun z=>p10 (z ▸ l.1)) (fun o e=>s1 py o e pyp)
    have RF2:bL H1 (fun b=>H12 b=none) fr2 n (fun h=>(List.range n).map (far (zp zs2) h)):=RF2b.keep hfr2 fun b o l e=>s1 b o e (L12 b l)
    have hha1:=s1 _ _ hhab hhap
    refine⟨_,rfl,_,rfl,_,rfl,_,rfl,_,rfl,_,_,px,n,zp zs,fr,ha,homes,sa,st,fa,fs,rfl,NC1,RF _ s1,hha1,hsa1,hfa,G,fun H2 s2=>⟨_,rfl,iteF ?_⟩⟩
    refine⟨_,rfl,_,rfl,_,rfl,_,rfl,_,rfl,_,_,py,n,zp zs2,fr2,ha,homes,sa,st,fa,fs,rfl,NC2.same s2,RF2.same s2,s2 _ _ hha1,s2 _ _ hsa1,s2 _ _ hfa,G,fun H3' s3'=>⟨_,rfl,iteF ?_⟩⟩
    have s23:=s2.trans s3'
    have hfa3:=s23 _ _ hfa
    have hha3:=s23 _ _ hha1
    have fl:fs.length=homes.length:=by rw[G.l2,G.l1]
    refine⟨_,rfl,_,rfl,fa,ha,_,_,rfl,SqT.of hfa3,SqT.of hha3,by rw[List.length_map,aU];exact fl,fun D4 hD4=>?_⟩
    refine aBP (K:=K) (xs:=fs.map oV) (ys:=NV homes) (by rw[List.length_map,aU];exact fl) (fun i zz σ H=>(∃u v,σ=[u,v])∧Same H3' H∧H D4=some (.lst zz)∧zz=((nxS homes fs).map oV).take i) ⟨⟨_,_,rfl⟩,aG hD4,aB,rfl⟩ (fun i zz σ H _ z=>⟨SqT.of (z.2.1 _ _ hfa3),SqT.of (z.2.1 _ _ hha3)⟩) ?_ ?_
    ·rintro i x y pp zz σ H5 Kt Kf hx hy ⟨⟨u,v,rfl⟩,sm5,hD5,rfl⟩ hpp kt kf
     have hil:i<fs.length:=by have:=(List.getElem?_eq_some_iff.mp hx).1;rwa [List.length_map] at this
     rw[eT hil] at hx
     obtain rfl:=Option.some.inj hx
     rw[cZ (by lia)] at hy
     obtain rfl:=Option.some.inj hy
     have sp:=aG (o:=.tup [oV (fs.getD i none),.int ((homes.getD i 0:Nat):Int)]) hpp
     have one:=aDG (homes:=homes) (fs:=fs) hil
     have lt:(((nxS homes fs).map oV).take i).length<sizeLine:=Nat.lt_of_le_of_lt (List.length_take_le' _ _) (by rw[List.length_map,jV,G.l2];exact Nat.lt_of_le_of_lt G.l3 (by decide))
     refine⟨pp,_,rfl,SqT.of aB,rfl,_,_,rfl,_,_,rfl,rfl,?_⟩
     refine⟨_,rfl,_,rfl,aEq,_,rfl,?_⟩
     rw[aE0]
     have go:∀v,((nxS homes fs).map oV)[i]?=some v→∀σ2,(∃u v,σ2=[u,v])→Kt v σ2 (upd H5 pp (.tup [oV (fs.getD i none),.int ((homes.getD i 0:Nat):Int)])):=fun v hv σ2 sh=>kt v σ2 _ (sp _ _ hD5) lt ⟨sh,bE (sm5.trans sp) hD4,aB,by rw[List.take_add_one,hv];rfl⟩
     by_cases c:fs.getD i none=some (homes.getD i 0)
     ·rw[if_pos c] at one
      rw[decide_eq_true c]
      exact iteT (go _ one _ ⟨_,_,rfl⟩)
     ·rw[if_neg c] at one
      rw[decide_eq_false c]
      exact iteF ⟨_,rfl,go _ one _ ⟨_,_,rfl⟩⟩
    ·rintro zz σ H5 ⟨_,sm5,hD5,rfl⟩
     rw[List.length_map,show fs.length=((nxS homes fs).map oV).length by rw[List.length_map,jV],List.take_length] at hD5
     refine⟨D4,_,rfl,.inl ⟨SqL.of hD5,fun t ht=>?_⟩⟩
     have st':=aG (o:=.tup ((nxS homes fs).map oV)) ht
     have s15:=(s23.trans sm5).trans st'
     exact⟨t,nxS homes fs,⟨_,_,rfl⟩,s1.trans (aI.of s15),hp1.same s15,aB,hd.next Fi SD⟩
end
end K12
namespace K12
open PySem L2 NetM
def FD(K:PySem.W.Frag)(n:Str)(st:Stmt):Prop:=∃ (f:Addr) (oc:Value) (od an:Option Addr) (sl:Array (Option Value)) (kV dc pm cd ct:Value),PySem.W.nsIn K mainGlobals n=some (some (.ref f))∧K.lookup f=some ⟨oc,od,.func (PySem.W.fnOf n n (cS st) (cC st) (aN st) .none kV dc pm an cd ct),sl⟩∧PySem.W.codeIn K cd n=true∧PySem.W.keepIn K (.ref f)=true
def FC(K:PySem.W.Frag)(n:Str)(st:Stmt)(c:Addr):Prop:=∃ (f:Addr) (oc:Value) (od an:Option Addr) (sl:Array (Option Value)) (kV dc pm ct:Value),PySem.W.nsIn K mainGlobals n=some (some (.ref f))∧K.lookup f=some ⟨oc,od,.func (PySem.W.fnOf n n (cS st) (cC st) (aN st) .none kV dc pm an (.ref c) ct),sl⟩∧PySem.W.codeIn K (.ref c) n=true∧PySem.W.keepIn K (.ref f)=true
def MD(K:PySem.W.Frag)(C:Addr)(n q:Str)(st:Stmt):Prop:=∃ (f:Addr) (oc:Value) (od an:Option Addr) (sl:Array (Option Value)) (kV dc pm cd ct:Value),PySem.W.findIn K (.ref C) n=some (some (.ref f))∧PySem.W.isFn K (.ref f)=true∧K.lookup f=some ⟨oc,od,.func (PySem.W.fnOf n q (cS st) (cC st) (aN st) .none kV dc pm an cd ct),sl⟩∧PySem.W.codeIn K cd q=true∧PySem.W.keepIn K (.ref f)=true
section
variable {P:Program} {w:World} {K:PySem.W.Frag} {mg:Str→Option Value} {base h:Heap} {n q:Str} {st:Stmt} {f c C:Addr} {oc kV dc pm cd ct:Value} {od an:Option Addr} {sl:Array (Option Value)} {CX:CXT} {k:Nat} {ps:List Str} {sp:Sp}
theorem FD.mk(a:PySem.W.nsIn K mainGlobals n=some (some (.ref f)))(l:K.lookup f=some ⟨oc,od,.func (PySem.W.fnOf n n (cS st) (cC st) (aN st) .none kV dc pm an cd ct),sl⟩)(d:PySem.W.codeIn K cd n=true)(k:PySem.W.keepIn K (.ref f)=true):FD K n st:=⟨f,oc,od,an,sl,kV,dc,pm,cd,ct,a,l,d,k⟩
theorem FC.mk(a:PySem.W.nsIn K mainGlobals n=some (some (.ref f)))(l:K.lookup f=some ⟨oc,od,.func (PySem.W.fnOf n n (cS st) (cC st) (aN st) .none kV dc pm an (.ref c) ct),sl⟩)(d:PySem.W.codeIn K (.ref c) n=true)(k:PySem.W.keepIn K (.ref f)=true):FC K n st c:=⟨f,oc,od,an,sl,kV,dc,pm,ct,a,l,d,k⟩
theorem MD.mk(a:PySem.W.findIn K (.ref C) n=some (some (.ref f)))(i:PySem.W.isFn K (.ref f)=true)(l:K.lookup f=some ⟨oc,od,.func (PySem.W.fnOf n q (cS st) (cC st) (aN st) .none kV dc pm an cd ct),sl⟩)(d:PySem.W.codeIn K cd q=true)(k:PySem.W.keepIn K (.ref f)=true):MD K C n q st:=⟨f,oc,od,an,sl,kV,dc,pm,cd,ct,a,i,l,d,k⟩
def BD(n q:Str)(st:Stmt)(ps:List Str):Prop:=∀ (kV doc pm:Value) (an:Option Addr) (cdv ct:Value) (us:List Value),us.length=ps.length→bindArgs (PySem.W.fnOf n q (cS st) (cC st) (aN st) .none kV doc pm an cdv ct) ⟨us,[]⟩=pure (ps.zip us)
theorem FD.cal(X:K.In h)(G:h.Ns mainGlobals mg)(D:FD K n st)(b:BD n n st ps)(o:∀ {f fd},Fun K n n st f fd→FnOk P w K mg base CX k f fd ps sp):Cal P w K mg base CX k n ps sp:=
 let ⟨f,_,_,_,_,_,_,_,_,_,a,l,d,kp⟩:=D
 have F:=oE (x:=n) (qual:=n) (st:=st) l d kp
 ⟨⟨f,_,PySem.W.mg_of X G a,kp,F.binds b,o F⟩⟩
theorem FC.cal(X:K.In h)(G:h.Ns mainGlobals mg)(D:FC K n st c)(b:BD n n st ps)(o:∀ {f fd},FunC K n n st f fd c→FnOk P w K mg base CX k f fd ps sp):Cal P w K mg base CX k n ps sp:=
 let ⟨f,_,_,_,_,_,_,_,_,a,l,d,kp⟩:=D
 have F:=aCR (x:=n) (qual:=n) (st:=st) l d kp
 ⟨⟨f,_,PySem.W.mg_of X G a,kp,F.fun.binds b,o F⟩⟩
theorem MD.cal(D:MD K C n q st)(b:BD n q st ps)(o:∀ {f fd},Fun K n q st f fd→FnOk P w K mg base CX k f fd ps sp):MCal P w K mg base CX k C n ps sp:=
 let ⟨f,_,_,_,_,_,_,_,_,_,a,i,l,d,kp⟩:=D
 have F:=oE (x:=n) (qual:=q) (st:=st) l d kp
 ⟨⟨f,_,⟨a,i,kp⟩,F.binds b,o F⟩⟩
end
theorem aEs{l:PySem.W.OpenLaw}{w:World}{K:PySem.W.Frag}{h:Heap}{mg:Str→Option Value}{fa:Addr}(X:K.In h)(G:h.Ns mainGlobals mg)(hfa:mg "law"=some (.ref fa)){C cO Pt:Addr}{t_FEWEST_HOUSES t_MOST_HOUSES t_MOST_TIES_OUT:Tok}(aC:PySem.W.nsIn K mainGlobals "Net"=some (some (.ref C)))(h_whole:FD K "is_whole" tV)(h_within:FD K "is_whole_within" pT)(h_house:FD K "is_house" tW)(h_row:FD K "is_row" sRow)(h_unl:FD K "are_unlike_houses" sUnl)(h_tie:FD K "is_tie" sTie)(h_cties:FD K "check_ties" uB)(h_bal:FD K "check_balance" sBal)(h_outs:FC K "houses_out" oR cO)(h_dist:FD K "distances_from" zD)(h_reach:FD K "check_reached" uC)(h_isled:FD K "is_led" uS)(h_led:FD K "led" sLed)(h_pot:FD K "_law_pot" sPot)(h_take:FD K "_law_take" zI)(h_order:FD K "_law_order" uG)(h_both:FD K "_law_both" zK)(h_tree:FD K "_law_tree" zL)(h_mesh:FD K "_law_mesh" zN)(h_box:FD K "_law_box" sBox)(h_words:FD K "_law_words" uI)(h_one:FD K "_law_one_way" sOne)(h_net:FD K "_law_net" sNet)(h_louts:FD K "_law_outs" uK)(h_stand:FD K "_law_stand" uM)(h_right:FD K "_law_right" uN)(h_lfar:FD K "_law_far" zV)(h_eager:FD K "_law_eager" uW)(h_astray:FD K "_law_astray" qJ)(h_lled:FD K "_law_led" zX)(h_wider:FD K "_law_wider" uV)(h_rl:FD K "_law_right_led" sRL)(h_law:FD K "law" sLaw)(m_init:MD K C "__init__" "Net.__init__" rT)(m_check:MD K C "check_house" "Net.check_house" tZ)(m_far:MD K C "far" "Net.far" sFar)(pg:PySem.W.plainGet K C Str.empty=true)(q_hd:PySem.W.hasDictIn K C=true)(po:PySem.W.plainOver K C=true)(sa:PySem.W.findIn K (.ref C) "__setattr__"=some (some (.builtin "object.__setattr__")))(mk:PySem.W.makesIn K C=true)(kc:PySem.W.keepIn K (.ref C)=true)(nH:PySem.W.findIn K (.ref C) "house_count"=some none)(nT:PySem.W.findIn K (.ref C) "tie_list"=some none)(nO:PySem.W.findIn K (.ref C) "out_lists"=some none)(nD:PySem.W.findIn K (.ref C) "distances"=some none)(z_isinstance:PySem.W.nsIn K mainGlobals "isinstance"=some none)(z_int:PySem.W.nsIn K mainGlobals "int"=some none)(z_bool:PySem.W.nsIn K mainGlobals "bool"=some none)(z_tuple:PySem.W.nsIn K mainGlobals "tuple"=some none)(z_list:PySem.W.nsIn K mainGlobals "list"=some none)(z_str:PySem.W.nsIn K mainGlobals "str"=some none)(z_set:PySem.W.nsIn K mainGlobals "set"=some none)(z_len:PySem.W.nsIn K mainGlobals "len"=some none)(z_range:PySem.W.nsIn K mainGlobals "range"=some none)(z_sorted:PySem.W.nsIn K mainGlobals "sorted"=some none)(z_any:PySem.W.nsIn K mainGlobals "any"=some none)(z_max:PySem.W.nsIn K mainGlobals "max"=some none)(z_min:PySem.W.nsIn K mainGlobals "min"=some none)(z_ValueError:PySem.W.nsIn K mainGlobals "ValueError"=some none)(z_all:PySem.W.nsIn K mainGlobals "all"=some none)(z_abs:PySem.W.nsIn K mainGlobals "abs"=some none)(z_divmod:PySem.W.nsIn K mainGlobals "divmod"=some none)(z_dict:PySem.W.nsIn K mainGlobals "dict"=some none)(z_zip:PySem.W.nsIn K mainGlobals "zip"=some none)(z_repr:PySem.W.nsIn K mainGlobals "repr"=some none)(z_enumerate:PySem.W.nsIn K mainGlobals "enumerate"=some none)(g_FEWEST_HOUSES:PySem.W.nsIn K mainGlobals "FEWEST_HOUSES"=some (some (.int 2 t_FEWEST_HOUSES)))(g_MOST_HOUSES:PySem.W.nsIn K mainGlobals "MOST_HOUSES"=some (some (.int 32 t_MOST_HOUSES)))(g_MOST_TIES_OUT:PySem.W.nsIn K mainGlobals "MOST_TIES_OUT"=some (some (.int 8 t_MOST_TIES_OUT)))(q_outs:PySem.W.codeHdIn K cO Pt=true):
  ∃fd:FuncData,(∀ (s:Shared) (v:Value),BindsTo s fd ⟨[v],[]⟩ [("_law_script",v)])∧∀base:Heap,K.In base→base.Ns mainGlobals mg→BmOk mg base→FnOk l.prog w K mg base CX0 9 fa fd ["_law_script"] (rX K Pt):=by
 obtain⟨f_law,oc,od,an,sl,kV,dc,pm,cd,ct,a_law,l_law,d_law,k_law⟩:=h_law
 have e:=hfa.symm.trans (PySem.W.mg_of X G a_law)
 cases e
 have F_law:=oE (x:="law") (qual:="law") (st:=sLaw) l_law d_law k_law
 obtain⟨f_i,oci,odi,ani,sli,kVi,dci,pmi,cdi,cti,a_i,i_i,l_i,d_i,k_i⟩:=m_init
 have F_m_init:=oE (x:="__init__") (qual:="Net.__init__") (st:=rT) l_i d_i k_i
 have b_m_init:=F_m_init.binds (ps:=["self","many","ties"]) fun _ _ _ _ _ _ us hl=>match us,hl with|[_,_,_],_=>rfl
 have MK:Mk K C f_i:=⟨mk,a_i,i_i,kc⟩
 have B:Bl mg:=⟨PySem.W.mg_none_of X G z_isinstance,PySem.W.mg_none_of X G z_int,PySem.W.mg_none_of X G z_bool,PySem.W.mg_none_of X G z_tuple,PySem.W.mg_none_of X G z_list,PySem.W.mg_none_of X G z_str,PySem.W.mg_none_of X G z_set,PySem.W.mg_none_of X G z_len,PySem.W.mg_none_of X G z_range,PySem.W.mg_none_of X G z_sorted,PySem.W.mg_none_of X G z_any,PySem.W.mg_none_of X G z_max,PySem.W.mg_none_of X G z_min,PySem.W.mg_none_of X G z_ValueError,PySem.W.mg_none_of X G z_all⟩
 have T:NT K mg C:=⟨⟨pg,q_hd,po,sa⟩,nH,nT,nO,nD,PySem.W.mg_of X G aC⟩
 have B2:Bl2 mg:=⟨PySem.W.mg_none_of X G z_abs,PySem.W.mg_none_of X G z_divmod,PySem.W.mg_none_of X G z_dict,PySem.W.mg_none_of X G z_zip,PySem.W.mg_none_of X G z_repr⟩
 refine⟨PySem.W.fnOf "law" "law" (cS sLaw) (cC sLaw) (aN sLaw) .none kV dc pm an cd ct,fun s v=>.of_eq rfl,fun base kb nb hb=>?_⟩
 have C_whole:Cal l.prog w K mg base CX0 1 "is_whole" ["thing"] (pU K):=FD.cal X G h_whole (fun _ _ _ _ _ _ us hl=>match us,hl with|[_],_=>rfl) fun F_whole=>aBV F_whole B
 have C_within:Cal l.prog w K mg base CX0 2 "is_whole_within" ["thing","least","most"] (kD K):=FD.cal X G h_within (fun _ _ _ _ _ _ us hl=>match us,hl with|[_,_,_],_=>rfl) fun F_within=>aA7 F_within C_whole
 have C_house:Cal l.prog w K mg base CX0 3 "is_house" ["many","thing"] (mL K):=FD.cal X G h_house (fun _ _ _ _ _ _ us hl=>match us,hl with|[_,_],_=>rfl) fun F_house=>aBX F_house C_within
 have C_row:Cal l.prog w K mg base CX0 1 "is_row" ["thing","length"] (zA K):=FD.cal X G h_row (fun _ _ _ _ _ _ us hl=>match us,hl with|[_,_],_=>rfl) fun F_row=>aD4 F_row B
 have C_unl:Cal l.prog w K mg base CX0 4 "are_unlike_houses" ["many","one","other"] zB:=FD.cal X G h_unl (fun _ _ _ _ _ _ us hl=>match us,hl with|[_,_,_],_=>rfl) fun F_unl=>aD6 F_unl C_house
 have C_tie:Cal l.prog w K mg base CX0 5 "is_tie" ["many","thing"] zC:=FD.cal X G h_tie (fun _ _ _ _ _ _ us hl=>match us,hl with|[_,_],_=>rfl) fun F_tie=>aD7 F_tie C_row C_unl
 have C_cties:Cal l.prog w K mg base CX0 6 "check_ties" ["many","ties"] iC:=FD.cal X G h_cties (fun _ _ _ _ _ _ us hl=>match us,hl with|[_,_],_=>rfl) fun F_cties=>aB0 F_cties B ⟨_,PySem.W.mg_of X G g_FEWEST_HOUSES⟩ ⟨_,PySem.W.mg_of X G g_MOST_HOUSES⟩ C_within C_tie
 have C_bal:Cal l.prog w K mg base CX0 1 "check_balance" ["many","ties"] iC:=FD.cal X G h_bal (fun _ _ _ _ _ _ us hl=>match us,hl with|[_,_],_=>rfl) fun F_bal=>aD8 F_bal B ⟨_,PySem.W.mg_of X G g_MOST_TIES_OUT⟩
 have C_outs:Cal l.prog w K mg base CX0 1 "houses_out" ["many","ties","house"] (oU Pt):=FC.cal X G h_outs (fun _ _ _ _ _ _ us hl=>match us,hl with|[_,_,_],_=>rfl) fun F_outs=>aDf F_outs B kb hb q_outs
 have C_dist:Cal l.prog w K mg base CX0 1 "distances_from" ["out_lists","start"] oW:=FD.cal X G h_dist (fun _ _ _ _ _ _ us hl=>match us,hl with|[_,_],_=>rfl) fun F_dist=>aDg F_dist B
 have C_reach:Cal l.prog w K mg base CX0 1 "check_reached" ["distances"] pV:=FD.cal X G h_reach (fun _ _ _ _ _ _ us hl=>match us,hl with|[_],_=>rfl) fun F_reach=>aB2 F_reach B
 have G_init:FnOk l.prog w K mg base CX0 7 f_i _ ["self","many","ties"] (uD C Pt):=aDi F_m_init T B C_cties C_bal C_outs C_dist C_reach
 have M_check:MCal l.prog w K mg base CX0 4 C "check_house" ["self","thing"] (nK C):=MD.cal m_check (fun _ _ _ _ _ _ us hl=>match us,hl with|[_,_],_=>rfl) fun F_m_check=>aBa F_m_check T C_house
 have M_far:MCal l.prog w K mg base CX0 5 C "far" ["self","one","other"] (uA C):=MD.cal m_far (fun _ _ _ _ _ _ us hl=>match us,hl with|[_,_,_],_=>rfl) fun F_m_far=>aDb F_m_far T M_check
 have C_isled:Cal l.prog w K mg base CX0 6 "is_led" ["net","homes","stand","handing","letter"] (mP C):=FD.cal X G h_isled (fun _ _ _ _ _ _ us hl=>match us,hl with|[_,_,_,_,_],_=>rfl) fun F_isled=>aCi F_isled B T M_far
 have C_led:Cal l.prog w K mg base CX0 7 "led" ["net","homes","stand","handing"] (zY C):=FD.cal X G h_led (fun _ _ _ _ _ _ us hl=>match us,hl with|[_,_,_,_],_=>rfl) fun F_led=>aEp F_led B C_isled
 have C_pot:Cal l.prog w K mg base CX0 1 "_law_pot" ["_law_script","_law_k"] (zJ K):=FD.cal X G h_pot (fun _ _ _ _ _ _ us hl=>match us,hl with|[_,_],_=>rfl) fun F_pot=>aEe F_pot B B2
 have C_take:Cal l.prog w K mg base CX0 1 "_law_take" ["_law_pot_here","_law_many"] dZ:=FD.cal X G h_take (fun _ _ _ _ _ _ us hl=>match us,hl with|[_,_],_=>rfl) fun F_take=>aDp F_take B2
 have C_order:Cal l.prog w K mg base CX0 2 "_law_order" ["_law_pot_here","_law_many"] iE:=FD.cal X G h_order (fun _ _ _ _ _ _ us hl=>match us,hl with|[_,_],_=>rfl) fun F_order=>aB6 F_order B C_take
 have C_both:Cal l.prog w K mg base CX0 1 "_law_both" ["_law_pairs"] uH:=FD.cal X G h_both (fun _ _ _ _ _ _ us hl=>match us,hl with|[_],_=>rfl) fun F_both=>aDq F_both
 have C_tree:Cal l.prog w K mg base CX0 2 "_law_tree" ["_law_pot_here","_law_n"] iT:=FD.cal X G h_tree (fun _ _ _ _ _ _ us hl=>match us,hl with|[_,_],_=>rfl) fun F_tree=>aDr F_tree B C_take
 have C_mesh:Cal l.prog w K mg base CX0 3 "_law_mesh" ["_law_pot_here","_law_n"] iT:=FD.cal X G h_mesh (fun _ _ _ _ _ _ us hl=>match us,hl with|[_,_],_=>rfl) fun F_mesh=>aDu F_mesh B C_take C_tree
 have C_box:Cal l.prog w K mg base CX0 1 "_law_box" ["_law_sides"] zP:=FD.cal X G h_box (fun _ _ _ _ _ _ us hl=>match us,hl with|[_],_=>rfl) fun F_box=>aEh F_box B
 have C_words:Cal l.prog w K mg base CX0 1 "_law_words" ["_law_figures","_law_base"] qA:=FD.cal X G h_words (fun _ _ _ _ _ _ us hl=>match us,hl with|[_,_],_=>rfl) fun F_words=>aCa F_words B
 have C_one:Cal l.prog w K mg base CX0 3 "_law_one_way" ["_law_pot_here","_law_n"] zQ:=FD.cal X G h_one (fun _ _ _ _ _ _ us hl=>match us,hl with|[_,_],_=>rfl) fun F_one=>aEi F_one B C_take C_order
 have C_net:Cal l.prog w K mg base CX0 4 "_law_net" ["_law_pot_here"] zU:=FD.cal X G h_net (fun _ _ _ _ _ _ us hl=>match us,hl with|[_],_=>rfl) fun F_net=>aEk F_net B C_take C_order C_tree C_mesh C_both C_box C_words C_one
 have C_louts:Cal l.prog w K mg base CX0 1 "_law_outs" ["_law_n","_law_ties"] qD:=FD.cal X G h_louts (fun _ _ _ _ _ _ us hl=>match us,hl with|[_,_],_=>rfl) fun F_louts=>aCc F_louts B B2
 have C_stand:Cal l.prog w K mg base CX0 2 "_law_stand" ["_law_pot_here","_law_n","_law_outs_here"] qE:=FD.cal X G h_stand (fun _ _ _ _ _ _ us hl=>match us,hl with|[_,_,_],_=>rfl) fun F_stand=>aCd F_stand B C_take
 have C_right:Cal l.prog w K mg base CX0 2 "_law_right" ["_law_pot_here","_law_outs_here","_law_stand_here"] qG:=FD.cal X G h_right (fun _ _ _ _ _ _ us hl=>match us,hl with|[_,_,_],_=>rfl) fun F_right=>aCh F_right B C_take
 have C_lfar:Cal l.prog w K mg base CX0 1 "_law_far" ["_law_n","_law_outs_here"] uR:=FD.cal X G h_lfar (fun _ _ _ _ _ _ us hl=>match us,hl with|[_,_],_=>rfl) fun F_lfar=>aDB F_lfar B
 have C_eager:Cal l.prog w K mg base CX0 3 "_law_eager" ["_law_pot_here","_law_outs_here","_law_far_here","_law_homes","_law_stand_here"] iG:=FD.cal X G h_eager (fun _ _ _ _ _ _ us hl=>match us,hl with|[_,_,_,_,_],_=>rfl) fun F_eager=>aCk F_eager B C_take C_order
 have C_astray:Cal l.prog w K mg base CX0 3 "_law_astray" ["_law_pot_here","_law_outs_here","_law_far_here","_law_homes","_law_stand_here"] iG:=FD.cal X G h_astray (fun _ _ _ _ _ _ us hl=>match us,hl with|[_,_,_,_,_],_=>rfl) fun F_astray=>aBp F_astray B C_order
 have C_lled:Cal l.prog w K mg base CX0 1 "_law_led" ["_law_far_here","_law_homes","_law_stand_here","_law_handing"] uU:=FD.cal X G h_lled (fun _ _ _ _ _ _ us hl=>match us,hl with|[_,_,_,_],_=>rfl) fun F_lled=>aDC F_lled B (PySem.W.mg_none_of X G z_enumerate)
 have C_wider:Cal l.prog w K mg base CX0 2 "_law_wider" ["_law_pot_here","_law_n","_law_ties","_law_outs_here"] qI:=FD.cal X G h_wider (fun _ _ _ _ _ _ us hl=>match us,hl with|[_,_,_,_],_=>rfl) fun F_wider=>aCj F_wider B C_take
 have C_rl:Cal l.prog w K mg base CX0 8 "_law_right_led" ["_law_net_here","_law_far_here","_law_homes","_law_stand_here","_law_handing"] (spRL C):=FD.cal X G h_rl (fun _ _ _ _ _ _ us hl=>match us,hl with|[_,_,_,_,_],_=>rfl) fun F_rl=>aEZ F_rl B C_lled C_led
 exact aEr F_law B B2 T MK b_m_init G_init C_pot C_take C_net C_louts C_lfar C_stand C_wider C_eager C_right C_astray C_rl
theorem aE1{K:PySem.W.Frag}{P:Addr}(h:((List.range 2000).any fun c=>PySem.W.codeHdIn K c P)=true):∃c,PySem.W.codeHdIn K c P=true:=
 let ⟨c,_,e⟩:=List.any_eq_true.mp h;⟨c,e⟩
theorem aEt{K:PySem.W.Frag}{H:Hp}{a:Addr}{xs:List V}{ts:List Addr}(hO:rS ts H)(h:SqL K H a xs):SqF K H a xs:=by
 rcases h with h|h
 ·rcases h with h|⟨o,h⟩
  ·rcases hO.2 a with z|⟨_,z⟩|⟨o,ys,z⟩ <;> · rw[h] at z;cases z
  ·exact .inl ⟨o,h⟩
 ·exact .inr fun H'=>.inr h
theorem walk{l:PySem.W.OpenLaw}{q:Program}{loose:List Str}{XP:(Str→Option Value)→Heap→Prop}{YP:World→Heap→Prop}{d:DefRec}{K:Params→PySem.W.Frag}{Pt:Addr}(hn:l.most=some 63)(hdf:d.params.defaults=[])(hY:∀ (w:World) (h:Heap),YP w h→(K w.params).In h)(hT:∀ (w:World) (h:Heap),YP w h→∀P∈[Pt],h.get? P=some (PySem.W.tabObj #[]))(hcd:∀ (w:World),((List.range 2000).any fun c=>PySem.W.codeHdIn (K w.params) c Pt)=true)(hkt:∀ (w:World),(K w.params).lookup Pt=none)(F:∀ (w:World) (mg:Str→Option Value) (fa:Addr) (h:Heap),(K w.params).In h→h.Ns mainGlobals mg→mg d.name=some (.ref fa)→
   ∃fd:FuncData,(∀ (s:Shared) (u:Value),BindsTo s fd ⟨[u],[]⟩ [("_law_script",u)])∧∀base:Heap,(K w.params).In base→base.Ns mainGlobals mg→BmOk mg base→FnOk l.prog w (K w.params) mg base CX0 9 fa fd ["_law_script"] (rX (K w.params) Pt)):
  PySem.W.WalkO q loose XP YP l.row.toRowW d [] (fun f vs=>PySem.call f vs):=
 aBG (n:=63) (k:=9) (x:="_law_script") (ts:=[Pt]) (K:=K) (CX:=fun _=>CX0) (sp:=fun w=>(rX (K w.params) Pt)) hn (by decide) hdf ⟨rfl,by decide,by decide,rfl⟩ hY hT
  (fun w P hP=>by rw[List.mem_singleton.mp hP];exact aE1 (hcd w)) (fun w P hP=>by rw[List.mem_singleton.mp hP];exact hkt w) F
  (fun w H a ns hl hO hS=>⟨a,ns,rfl,aEt hO hS,hl,.inl (hO.1 _ (by simp)),fun _=>rfl⟩) fun _ _ _ _ _ z=>z
end K12
open PySem PySem.W PyProof.Rows
namespace PySem.W.Fast
theorem tw10248573079397227696:True:=⟨⟩
theorem tw4867947687741412638:True:=⟨⟩
theorem tw13201199434757107616:True:=⟨⟩
theorem tw12001809726420101885:True:=⟨⟩
theorem tw4458741122306372327:True:=⟨⟩
theorem tw5877998611236733707:True:=⟨⟩
theorem tw5965318918765181455:True:=⟨⟩
theorem tw10918845422967673614:True:=⟨⟩
theorem tw4932784446350576884:True:=⟨⟩
theorem tw7761304303018502242:True:=⟨⟩
theorem tw11856969494811080469:True:=⟨⟩
theorem tw6534032776257337523:True:=⟨⟩
theorem tw5502957274767802704:True:=⟨⟩
theorem tw10969328818622138736:True:=⟨⟩
theorem tw11796211605015812770:True:=⟨⟩
theorem tw4764364690472633446:True:=⟨⟩
theorem tw3402989442454374224:True:=⟨⟩
theorem tw4545766214056065946:True:=⟨⟩
theorem tw5151092738358592257:True:=⟨⟩
theorem tw10395853459280477074:True:=⟨⟩
theorem tw5843552840584445947:True:=⟨⟩
theorem tw6598608787580923881:True:=⟨⟩
theorem tw8873300959951678905:True:=⟨⟩
theorem tw8338031075743690141:True:=⟨⟩
theorem tw3239092329398178968:True:=⟨⟩
theorem tw1044034983912071857:True:=⟨⟩
theorem tw17267414336525982773:True:=⟨⟩
theorem tw17261679863790437185:True:=⟨⟩
theorem tw16700830103664133757:True:=⟨⟩
theorem tw14962395385969308896:True:=⟨⟩
theorem tw12616232085175858608:True:=⟨⟩
theorem tw9426106636114306252:True:=⟨⟩
theorem tw5832052533184645501:True:=⟨⟩
theorem tw14474086891482352077:True:=⟨⟩
theorem tw9772230171449391172:True:=⟨⟩
theorem tw1578553676574649990:True:=⟨⟩
theorem tw10940107444175951924:True:=⟨⟩
theorem tw7247248861107074942:True:=⟨⟩
theorem tw12949893601541481235:True:=⟨⟩
theorem tw4957665853442534301:True:=⟨⟩
theorem tw7280207343414053922:True:=⟨⟩
theorem tw11829337980637262477:True:=⟨⟩
theorem tw7373180438757915556:True:=⟨⟩
theorem tw14143283759884987490:True:=⟨⟩
theorem tw9270904324554185566:True:=⟨⟩
theorem tw9784200242419473748:True:=⟨⟩
theorem tw16453256913944492963:True:=⟨⟩
theorem tw14333183583151014551:True:=⟨⟩
theorem tw18267769733061590434:True:=⟨⟩
theorem tw16585948895628965635:True:=⟨⟩
theorem tw17430183910628039828:True:=⟨⟩
theorem tw14417375653500174665:True:=⟨⟩
theorem tw3505595713918445301:True:=⟨⟩
theorem tw11790238247576633027:True:=⟨⟩
theorem tw17130330778431600686:True:=⟨⟩
theorem tw4802913640733787989:True:=⟨⟩
theorem tw7629572273886393089:True:=⟨⟩
theorem tw9777349829620356524:True:=⟨⟩
theorem tw14546181323308084701:True:=⟨⟩
theorem tw12228748562152660972:True:=⟨⟩
theorem tw13983555126509569797:True:=⟨⟩
theorem tw5065302983191829001:True:=⟨⟩
theorem tw9873764411833779755:True:=⟨⟩
theorem tw13543612192152869776:True:=⟨⟩
theorem tw17519216406427170575:True:=⟨⟩
theorem tw2154708468317998916:True:=⟨⟩
theorem tw18109223686706749546:True:=⟨⟩
theorem tw2968234171155594677:True:=⟨⟩
theorem tw7145171211112372205:True:=⟨⟩
theorem tw1296752900610052684:True:=⟨⟩
theorem tw10938266226841220698:True:=⟨⟩
theorem tw12714569900688378815:True:=⟨⟩
theorem tw15661415485324569096:True:=⟨⟩
theorem tw2074482845541290874:True:=⟨⟩
theorem tw4823948288357717705:True:=⟨⟩
theorem tw16352264930751436655:True:=⟨⟩
theorem tw5019725006457429268:True:=⟨⟩
theorem tw12248920209762982265:True:=⟨⟩
theorem tw13841357657097387291:True:=⟨⟩
theorem tw14036602082599856795:True:=⟨⟩
theorem tw14488186873348171197:True:=⟨⟩
theorem tw1332222811064795749:True:=⟨⟩
theorem tw1685730947230114174:True:=⟨⟩
theorem tw6054806667037708983:True:=⟨⟩
theorem tw9015565851249859:True:=⟨⟩
theorem tw7590278252701472105:True:=⟨⟩
theorem tw5634053243141312100:True:=⟨⟩
theorem tw2414735283758350078:True:=⟨⟩
theorem tw1505177146703951268:True:=⟨⟩
theorem tw13839968574611812742:True:=⟨⟩
theorem tw17231860880320327362:True:=⟨⟩
theorem tw585208534257266741:True:=⟨⟩
theorem tw13150004104469506892:True:=⟨⟩
theorem tw15318074608489943650:True:=⟨⟩
theorem tw8949790348381216394:True:=⟨⟩
theorem tw14641791185309396198:True:=⟨⟩
theorem tw15566384551873818225:True:=⟨⟩
theorem tw5826590072165624692:True:=⟨⟩
theorem tw14629786133530808126:True:=⟨⟩
theorem tw11140602510041172429:True:=⟨⟩
theorem tw18061754891390984575:True:=⟨⟩
theorem tw17920736902238632297:True:=⟨⟩
theorem tw2785614172591774983:True:=⟨⟩
theorem tw18308999002146009198:True:=⟨⟩
theorem tw276773651761765615:True:=⟨⟩
theorem tw8063769987702224201:True:=⟨⟩
theorem tw9163665928050950353:True:=⟨⟩
theorem tw2483637071031134514:True:=⟨⟩
theorem tw7394967551045361801:True:=⟨⟩
theorem tw18009440954961699013:True:=⟨⟩
theorem tw14019038223287529939:True:=⟨⟩
theorem tw12644181891018386474:True:=⟨⟩
theorem tw2971617928612742953:True:=⟨⟩
theorem tw10887594502651499287:True:=⟨⟩
theorem tw7061328209195635209:True:=⟨⟩
theorem tw1296559119277022061:True:=⟨⟩
theorem tw17169188232667364389:True:=⟨⟩
theorem tw8546996839281986280:True:=⟨⟩
theorem tw11614469262671014988:True:=⟨⟩
theorem tw6363109470713457831:True:=⟨⟩
theorem tw3879156636171357383:True:=⟨⟩
theorem tw3511453444937567548:True:=⟨⟩
theorem tw9699079494150821313:True:=⟨⟩
theorem tw13637266095656348957:True:=⟨⟩
theorem tw6916355796797349781:True:=⟨⟩
theorem tw4754236097707515176:True:=⟨⟩
theorem tw10805055082080834176:True:=⟨⟩
theorem tw7907561214165683584:True:=⟨⟩
theorem tw8340739065626053280:True:=⟨⟩
theorem tw16799025663402302343:True:=⟨⟩
theorem tw2546283578002869261:True:=⟨⟩
theorem tw9037477828935433372:True:=⟨⟩
theorem tw12093227517387105831:True:=⟨⟩
theorem tw1596590224434197883:True:=⟨⟩
theorem tw9498915732430098103:True:=⟨⟩
theorem tw7937791978353286961:True:=⟨⟩
theorem tw5708210345559924343:True:=⟨⟩
theorem tw17169933690164728971:True:=⟨⟩
theorem tw7593040435980213027:True:=⟨⟩
theorem tw12098406580247591977:True:=⟨⟩
theorem tw1982196215417802133:True:=⟨⟩
theorem tw4056550046413923055:True:=⟨⟩
theorem tw17132532465699848359:True:=⟨⟩
theorem tw10326039252478042772:True:=⟨⟩
theorem tw17775409429368990142:True:=⟨⟩
theorem tw6345541741108305110:True:=⟨⟩
theorem tw18413271883443670008:True:=⟨⟩
theorem tw5146024944449837185:True:=⟨⟩
theorem tw3707535154901286763:True:=⟨⟩
theorem tw8571907573139676307:True:=⟨⟩
theorem tw685601435925479420:True:=⟨⟩
theorem tw1406800256877364490:True:=⟨⟩
theorem tw2785108945528039432:True:=⟨⟩
theorem tw7652839453569420327:True:=⟨⟩
theorem tw12808210619048875270:True:=⟨⟩
theorem tw13235390950522546227:True:=⟨⟩
theorem tw17878481962732146750:True:=⟨⟩
theorem tw6280809178053596109:True:=⟨⟩
theorem tw15171502069274551356:True:=⟨⟩
theorem tw13501719251452799580:True:=⟨⟩
theorem tw10573877701603831775:True:=⟨⟩
theorem tw17892541158959987017:True:=⟨⟩
theorem tw5822174334765705620:True:=⟨⟩
theorem tw6009270014610714743:True:=⟨⟩
theorem tw12134411265464064950:True:=⟨⟩
theorem tw13492569020320634037:True:=⟨⟩
theorem tw7403405828309582988:True:=⟨⟩
theorem tw14918132308189628990:True:=⟨⟩
theorem tw5816964706529915733:True:=⟨⟩
theorem tw16755224525774703019:True:=⟨⟩
theorem tw11277100457961702420:True:=⟨⟩
theorem tw17264696135291149222:True:=⟨⟩
theorem tw12036593476568570846:True:=⟨⟩
theorem tw13327106063966104669:True:=⟨⟩
theorem tw483203661442055596:True:=⟨⟩
theorem tw11881097685693638944:True:=⟨⟩
theorem tw4648593279695963727:True:=⟨⟩
theorem tw11357402669529438448:True:=⟨⟩
theorem tw9934155660750100957:True:=⟨⟩
theorem tw5021613822591359174:True:=⟨⟩
theorem tw17639523819075741432:True:=⟨⟩
theorem tw5625937834075532748:True:=⟨⟩
theorem tw15542026581311595254:True:=⟨⟩
theorem tw11127937678515577414:True:=⟨⟩
theorem tw4562347874182691223:True:=⟨⟩
theorem tw7172901220006185792:True:=⟨⟩
theorem tw1706584196309629877:True:=⟨⟩
theorem tw3920269265112003477:True:=⟨⟩
theorem tw1662347506322834555:True:=⟨⟩
theorem tw13185207364592448988:True:=⟨⟩
theorem tw9753133927886294101:True:=⟨⟩
theorem tw10925098827239849332:True:=⟨⟩
theorem tw14043550381090355360:True:=⟨⟩
theorem tw627139341243569368:True:=⟨⟩
theorem tw8816534628577799617:True:=⟨⟩
theorem tw3269678785845455579:True:=⟨⟩
theorem tw12544674867253928649:True:=⟨⟩
theorem tw5160143578373470428:True:=⟨⟩
theorem tw678085080510848386:True:=⟨⟩
theorem tw2348319531704714106:True:=⟨⟩
theorem tw817636258557187535:True:=⟨⟩
theorem tw8845580420424565744:True:=⟨⟩
theorem tw13627055469697545300:True:=⟨⟩
theorem tw3436068495744794713:True:=⟨⟩
theorem tw16645320682962315797:True:=⟨⟩
theorem tw13526923579410784684:True:=⟨⟩
theorem tw353330032390272855:True:=⟨⟩
theorem tw1757112959279127175:True:=⟨⟩
theorem tw533785660271496862:True:=⟨⟩
theorem tw15593035147140199706:True:=⟨⟩
theorem tw6663268590841593358:True:=⟨⟩
theorem tw4976730779949269802:True:=⟨⟩
theorem tw4505628242325045100:True:=⟨⟩
theorem tw14554094525532282581:True:=⟨⟩
theorem tw13113713069120343519:True:=⟨⟩
theorem tw2362140084482671433:True:=⟨⟩
theorem tw3949447087248677480:True:=⟨⟩
theorem tw5785923766522250675:True:=⟨⟩
theorem tw6353288210834174499:True:=⟨⟩
theorem tw11184019910770878872:True:=⟨⟩
theorem tw8908817847298348759:True:=⟨⟩
theorem tw8752697234284768597:True:=⟨⟩
theorem tw14464282030335712371:True:=⟨⟩
theorem tw15550051269770919267:True:=⟨⟩
theorem tw5037439721228287702:True:=⟨⟩
theorem tw4202617279927512494:True:=⟨⟩
theorem tw1388263369204417694:True:=⟨⟩
theorem tw9038612690014902260:True:=⟨⟩
theorem tw17978101594427341618:True:=⟨⟩
theorem tw1166100180119547545:True:=⟨⟩
theorem tw6402077522408715875:True:=⟨⟩
theorem tw9559929924067427396:True:=⟨⟩
theorem tw15745216765729572190:True:=⟨⟩
theorem tw10807954414786500356:True:=⟨⟩
theorem tw8095475224141557982:True:=⟨⟩
theorem tw14666070303194112600:True:=⟨⟩
theorem tw6606407843484511043:True:=⟨⟩
theorem tw2929923869676582780:True:=⟨⟩
theorem tw13857530046405133413:True:=⟨⟩
theorem tw5181221670667117920:True:=⟨⟩
theorem tw6219344911447221086:True:=⟨⟩
theorem tw7065506694551579821:True:=⟨⟩
theorem tw7700100198200015811:True:=⟨⟩
theorem tw5768788239227452306:True:=⟨⟩
theorem tw3887890639447868124:True:=⟨⟩
theorem tw5721596620181557495:True:=⟨⟩
theorem tw6233288785189815236:True:=⟨⟩
theorem tw16065844748501119511:True:=⟨⟩
theorem tw3127447255376058927:True:=⟨⟩
theorem tw3825728874886824180:True:=⟨⟩
theorem tw3888047653325153539:True:=⟨⟩
theorem tw10068875604035957252:True:=⟨⟩
theorem tw11892443847779400997:True:=⟨⟩
theorem tw12404320252131320075:True:=⟨⟩
theorem tw6379331467210957350:True:=⟨⟩
theorem tw4364125318456030787:True:=⟨⟩
theorem tw10744672142467974307:True:=⟨⟩
theorem tw9825824335431144373:True:=⟨⟩
theorem tw12598814130606276847:True:=⟨⟩
theorem tw17389976076735409718:True:=⟨⟩
theorem tw16659772447909003411:True:=⟨⟩
theorem tw44368253306038795:True:=⟨⟩
theorem tw11803567291732244395:True:=⟨⟩
theorem tw9951176587776683996:True:=⟨⟩
theorem tw4325278529987529876:True:=⟨⟩
theorem tw6225451240482042006:True:=⟨⟩
theorem tw17612816542575025157:True:=⟨⟩
theorem tw2516448459302384367:True:=⟨⟩
theorem tw113009819118395132:True:=⟨⟩
theorem tw5445644358042013670:True:=⟨⟩
theorem tw7281934878159940437:True:=⟨⟩
theorem tw1304702313775740151:True:=⟨⟩
theorem tw8744890743385642899:True:=⟨⟩
theorem tw4498169496569260572:True:=⟨⟩
theorem tw6269307253576584354:True:=⟨⟩
theorem tw6355704828480315274:True:=⟨⟩
theorem tw2794089062720498605:True:=⟨⟩
theorem tw15779298468343728716:True:=⟨⟩
theorem tw13415001366139135276:True:=⟨⟩
theorem tw5738909214284232189:True:=⟨⟩
theorem tw10907828795551033128:True:=⟨⟩
theorem tw4788612314299875718:True:=⟨⟩
theorem tw13611415864983602496:True:=⟨⟩
theorem tw14040077361855536975:True:=⟨⟩
theorem tw1336255976838269718:True:=⟨⟩
theorem tw7502154464865629984:True:=⟨⟩
theorem tw11331294373513762179:True:=⟨⟩
theorem tw13043195028147933520:True:=⟨⟩
theorem tw6061301342685484791:True:=⟨⟩
theorem tw4968252368669349188:True:=⟨⟩
theorem tw16563883899164291148:True:=⟨⟩
theorem tw14251596320863047001:True:=⟨⟩
theorem tw260149503787628075:True:=⟨⟩
theorem tw5955631470272321062:True:=⟨⟩
theorem tw11681743003134004172:True:=⟨⟩
theorem tw17264674198321957736:True:=⟨⟩
theorem tw8993842309379308399:True:=⟨⟩
theorem tw10773809445029772060:True:=⟨⟩
theorem tw13596641275264175147:True:=⟨⟩
theorem tw10738949651997490761:True:=⟨⟩
theorem tw14096802932545667550:True:=⟨⟩
end PySem.W.Fast
set_option maxRecDepth 100000 in
set_option maxHeartbeats 0 in
theorem PySem.Challenge.cw_neverwait_k24_led_about_holds : PySem.Challenge.rw_neverwait_k24_led_about.Holds := by
 w_on; o_law; k_head; (case hw=>w_witness2)
 k_fill
 refine K12.walk (l:=PySem.Challenge.rw_neverwait_k24_led_about) (Pt:=_) rfl rfl (fun w h Y=>PySem.W.km_in_of Y) (fun w h Y=>PySem.W.km_tabs_of Y) ?cd ?kt ?F
 case F =>
  intro w mg fa h KX G hmg
  refine' K12.aEs (Pt:=_) KX G hmg ?_ ?_ ?_ ?_ ?_ ?_ ?_ ?_ ?_ ?_ ?_ ?_ ?_ ?_ ?_ ?_ ?_ ?_ ?_ ?_ ?_ ?_ ?_ ?_ ?_ ?_ ?_ ?_ ?_ ?_ ?_ ?_ ?_ ?_ ?_ ?_ ?_ ?_ ?_ ?_ ?_ ?_ ?_ ?_ ?_ ?_ ?_ ?_ ?_ ?_ ?_ ?_ ?_ ?_ ?_ ?_ ?_ ?_ ?_ ?_ ?_ ?_ ?_ ?_ ?_ ?_ ?_ ?_ ?_ ?_ ?_ ?_
  all_goals first
   | (refine' K12.FD.mk ?a ?l ?d ?k; (case a=>k_is); (case l=>k_is); (case d=>k_is); (case k=>k_is))
   | (refine' K12.FC.mk ?a ?l ?d ?k; (case a=>k_is); (case l=>k_is); (case d=>k_is); (case k=>k_is))
   | (refine' K12.MD.mk ?a ?i ?l ?d ?k; (case a=>k_is); (case i=>k_is); (case l=>k_is); (case d=>k_is); (case k=>k_is))
   | k_is
   | kernel_rfl
   | exact ⟨by kernel_rfl,by k_is,by k_is,by k_is,by k_is,by k_is,by k_is,by kernel_rfl⟩
   | skip
 case kt=>intro w; kernel_rfl
 case cd=>intro w; kernel_rfl
